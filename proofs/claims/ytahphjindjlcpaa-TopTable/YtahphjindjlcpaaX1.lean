/- Several texts in one. -/
import Derived.Test.YtahphjindjlcpaaX2
import Derived.Test.YtahphjindjlcpaaW4
import Derived.ProofKit
import Derived.OpenShut
/- The document's rows in order. -/
namespace Go.Proofs.Ytahphjindjlcpaa
open Go.RowKit Go.Shelf
set_option maxRecDepth 100000
set_option linter.unusedVariables false
set_option linter.unusedSimpArgs false

/-- A row put into its place, from the front. -/
def insB (x : Rw) : List Rw → List Rw
  | [] => [x]
  | y :: l => if ltR x y = true then x :: y :: l else y :: insB x l

theorem insB_perm (x : Rw) : ∀ l, (insB x l).Perm (x :: l)
  | [] => List.Perm.refl _
  | y :: l => by
    unfold insB
    split
    · exact List.Perm.refl _
    · exact ((insB_perm x l).cons y).trans (List.Perm.swap x y l)

theorem insB_inO (x : Rw) : ∀ l, InO l → InO (insB x l)
  | [], _ => by unfold insB InO; simp
  | y :: l, h => by
    have h' := List.pairwise_cons.1 h
    unfold insB
    split
    · rename_i hlt
      have hyx : ltR y x = false := by rw [ltR_iff] at hlt; rw [ltR_false]; omega
      refine List.pairwise_cons.2 ⟨fun z hz => ?_, h⟩
      rcases List.mem_cons.1 hz with rfl | hz
      · exact hyx
      · exact ltR_step hyx (h'.1 z hz)
    · rename_i hlt
      refine List.pairwise_cons.2 ⟨fun z hz => ?_, insB_inO x l h'.2⟩
      rcases List.mem_cons.1 ((insB_perm x l).mem_iff.1 hz) with rfl | hz
      · simpa using hlt
      · exact h'.1 z hz

/-- The document's rows in order. -/
def ordD (l : List Rw) : List Rw := l.foldl (fun P x => insB x P) []

theorem ordD_snoc (l : List Rw) (x : Rw) : ordD (l ++ [x]) = insB x (ordD l) := by unfold ordD; rw [List.foldl_append]; rfl

theorem ordD_perm (l : List Rw) : (ordD l).Perm l := by
  have : ∀ (m P : List Rw), (m.foldl (fun P x => insB x P) P).Perm (P ++ m) := by
    intro m
    induction m with
    | nil => intro P; simp
    | cons x m ih =>
      intro P
      rw [List.foldl_cons]
      refine (ih _).trans ?_
      refine ((insB_perm x P).append_right m).trans ?_
      rw [List.cons_append]
      exact List.perm_middle.symm
  unfold ordD
  simpa using this l []

theorem ordD_inO (l : List Rw) : InO (ordD l) := by
  have : ∀ (m P : List Rw), InO P → InO (m.foldl (fun P x => insB x P) P) := by
    intro m
    induction m with
    | nil => intro P h; exact h
    | cons x m ih => intro P h; exact ih _ (insB_inO x _ h)
  exact this l [] List.Pairwise.nil

theorem ordD_length (l : List Rw) : (ordD l).length = l.length := (ordD_perm l).length_eq

/-- Both ways to put rows in order make the same of them. -/
theorem ordD_isort {l m : List Rw} (hp : m.Perm l) (hd : l.Pairwise (fun x y => x.turn ≠ y.turn)) : isort m = ordD l := by
  refine inO_unique ((isort_perm m).trans (hp.trans (ordD_perm l).symm)) (isort_inO m) (ordD_inO l) ?_
  exact ((((isort_perm m).trans hp)).pairwise_iff (fun {x y} h e => h e.symm)).2 hd

/-- What is written so far, and whether the row stands in it. -/
def stp (x : Rw) (q : List Rw × Bool) (y : Rw) : List Rw × Bool := if q.2 = false ∧ ltR x y = true then (q.1 ++ [x] ++ [y], true) else (q.1 ++ [y], q.2)
def pst (x : Rw) (l : List Rw) : List Rw × Bool := l.foldl (stp x) ([], false)

theorem pst_snoc (x : Rw) (l : List Rw) (y : Rw) : pst x (l ++ [y]) = stp x (pst x l) y := by unfold pst; rw [List.foldl_append]; rfl

theorem pst_true (x : Rw) : ∀ (l M : List Rw), l.foldl (stp x) (M, true) = (M ++ l, true)
  | [], M => by simp
  | y :: l, M => by
    rw [List.foldl_cons]
    have : stp x (M, true) y = (M ++ [y], true) := by unfold stp; simp
    rw [this, pst_true x l]
    simp

theorem pst_fin (x : Rw) : ∀ (l M : List Rw), (if (l.foldl (stp x) (M, false)).2 = true then (l.foldl (stp x) (M, false)).1 else (l.foldl (stp x) (M, false)).1 ++ [x]) = M ++ insB x l
  | [], M => by simp [insB]
  | y :: l, M => by
    rw [List.foldl_cons]
    by_cases h : ltR x y = true
    · have : stp x (M, false) y = (M ++ [x] ++ [y], true) := by unfold stp; simp [h]
      rw [this, pst_true]
      unfold insB
      rw [if_pos h]
      simp
    · have : stp x (M, false) y = (M ++ [y], false) := by unfold stp; simp [h]
      rw [this, pst_fin x l, show insB x (y :: l) = y :: insB x l from by rw [insB, if_neg h]]
      simp

theorem pst_end (x : Rw) (l : List Rw) : (if (pst x l).2 = true then (pst x l).1 else (pst x l).1 ++ [x]) = insB x l := by
  have := pst_fin x l []
  unfold pst
  simpa using this

theorem stp_true (x : Rw) (M : List Rw) (y : Rw) : stp x (M, true) y = (M ++ [y], true) := by unfold stp; simp
theorem stp_no {x y : Rw} {M : List Rw} (h : ltR x y = false) : stp x (M, false) y = (M ++ [y], false) := by unfold stp; simp [h]

theorem stp_len (x : Rw) (q : List Rw × Bool) (y : Rw) : (stp x q y).1.length ≤ q.1.length + 2 := by unfold stp; split <;> simp

theorem pst_len (x : Rw) (l : List Rw) : (pst x l).1.length ≤ 2 * l.length := by
  have : ∀ (m : List Rw) (q : List Rw × Bool), (m.foldl (stp x) q).1.length ≤ q.1.length + 2 * m.length := by
    intro m
    induction m with
    | nil => intro q; simp
    | cons y m ih =>
      intro q
      rw [List.foldl_cons]
      have h1 := ih (stp x q y)
      have h2 := stp_len x q y
      simp only [List.length_cons]
      omega
  have := this l ([], false)
  unfold pst
  simpa using this

theorem ownD_base {b1 b2 : Nat} {W : World} {v : Value} {n : Nat} {xs : List Value} (h : W.ownsRow b1 86 8 v n xs) (hb : b2 ≤ b1) : W.ownsRow b2 86 8 v n xs := by
  obtain ⟨h1, h2 | ⟨g, cap, cur, e, hg, r⟩⟩ := h
  · exact ⟨h1, .inl h2⟩
  · exact ⟨h1, .inr ⟨g, cap, cur, e, by omega, r⟩⟩

/-- A row more, behind rows of one's own. -/
theorem wpList_appd {ops : Array Oper} {rest : List Oper} {o : Oper} {a : Act} {Q : Exit → Act → World → Prop} {W : World} (hgd : o.guard = none) (s y : Operand)
    (ho : o.op = .call { callee := .builtin .append, args := #[s, y], argTypes := #[67, 67] }) (base : Nat) (v : Value) (M : List Rw) (r : Rw)
    (hs : a.eval s = v) (hy : a.eval y = .slice (some ⟨W.heap.size, 0, none⟩) 1 1) (hown : W.ownsRow base 86 8 v M.length (rws M)) (hb : base ≤ W.heap.size) (hM : M.length ≤ 10000)
    (h : ∀ g cp W2, W2.ownsRow base 86 8 (.slice (some ⟨g, 0, none⟩) (M.length + 1) cp) (M ++ [r]).length (rws (M ++ [r])) → Below base W W2 → But (fun i => v.ownBlock = some i) W W2 → wpList Try.prog ops Q rest (a.put o.dst (.slice (some ⟨g, 0, none⟩) (M.length + 1) cp)) W2) :
    wpList Try.prog ops Q (o :: rest) a (W.alloc (.cells (rwc r).toArray 86)) := by
  obtain ⟨i0, hi0, hz0, hz1, hz2⟩ := info_parts info_drow
  have la : Later W (W.alloc (.cells (rwc r).toArray 86)) := (Below.refl _ _).alloc (Nat.le_refl _) _
  have hnx := new_drow W r
  refine wpList_append_own _ hgd s y 67 ho base 86 i0 (.agg #[.int .u8 0, .int .u32 0, .int .u32 0, .int .u16 0, .int .u16 0, .int .i64 0, .int .i64 0, .int .i64 0]) 8 40 Try.underlying67 hi0 hz0 hz1 hz2 rfl (by decide) v M.length (rws M) hs (ownD_later hown la) ⟨W.heap.size, 0, none⟩ 1 1 (rwc r) hy rfl hnx (by intro u hu; simp only [rwc, List.mem_cons, List.not_mem_nil, or_false] at hu; rcases hu with rfl | rfl | rfl | rfl | rfl | rfl | rfl | rfl <;> rfl) (by unfold maxLen; omega) (by omega) (by have := la.size; omega) ?_
  intro v2 W2 hrow hg _
  obtain ⟨g2, cp2, rfl⟩ := ownsRow_succ hrow
  refine h g2 cp2 W2 ?_ ?_ ((But.of la).trans ⟨hg.os, hg.tape, hg.output, hg.size, fun i hi he => hg.block i hi (fun e => he e.symm)⟩)
  · rw [rws_append, List.length_append, List.length_singleton, show rws [r] = rwc r from by simp [rws]]
    exact hrow
  · refine (la.mono hb).trans ⟨hg.os, hg.tape, hg.output, hg.size, fun i hi => hg.block i (by have := la.size; omega) (fun e => ?_)⟩
    have := (hown.lt i e.symm).1
    omega

set_option maxHeartbeats 8000000 in
theorem rordered_any (base bt : Nat) (v : Value) (lim sq : Int) (l : List Rw) (w : World) (hT : DT base w bt v lim sq l) (hl : l.length ≤ 2000) :
    Calls Try.prog 43 #[.pointer (some ⟨bt, 0, none⟩)] w fun e w' => Later w w' ∧ ∃ u, e = .returned u ∧ w'.ownsRow w.heap.size 86 8 u (ordD l).length (rws (ordD l)) := by
  obtain ⟨av, cv, rfl, hcv1, hcv2⟩ := (ownD_rd hT.2.2).slice
  have HRD := hide (ownD_rd hT.2.2)
  go_enter Try.func43, Try.ntmps43
  go_wp2_with fail
  go_loopw [3, 4] (fun ov i wr => ∃ k : Nat, k ≤ l.length ∧ i = .int .i64 (k : Int) ∧ wr.ownsRow w.heap.size 86 8 ov (ordD (l.take k)).length (rws (ordD (l.take k))) ∧ Later w wr) (fun _ i _ => l.length - (intOf i).toNat)
  case atStart => exact ⟨0, by omega, rfl, World.ownsRow_nil _ _ _ _, Later.refl _⟩
  case round =>
    obtain ⟨k, hk, rfl, hOu, hlw⟩ := hrel
    rename World => wo
    have hTr := hT.later hlw
    have kT := block_cell hTr.2.1
    by_cases hlt : k < l.length
    · have hlt' : (k : Int) < l.length := by omega
      obtain ⟨bb, off, cp, e, _, _, hbb, hcs⟩ := (HRD.out.below hlw).cells (by omega)
      simp at e
      obtain ⟨rfl, rfl⟩ := e
      have hsn : ordD (l.take (k + 1)) = insB l[k] (ordD (l.take k)) := by rw [← List.take_append_getElem hlt, ordD_snoc]
      have c0 := hcs k hlt 0 (by omega)
      have c1 := hcs k hlt 1 (by omega)
      have c2 := hcs k hlt 2 (by omega)
      have c3 := hcs k hlt 3 (by omega)
      have c4 := hcs k hlt 4 (by omega)
      have c5 := hcs k hlt 5 (by omega)
      have c6 := hcs k hlt 6 (by omega)
      have c7 := hcs k hlt 7 (by omega)
      clear hcs
      generalize l[k] = x at *
      have hol : (ordD (l.take k)).length ≤ 2000 := by rw [ordD_length, List.length_take]; omega
      have HSN := hide hsn
      clear hsn
      generalize ordD (l.take k) = out at *
      simp only [rwc, List.getElem?_cons_zero, List.getElem?_cons_succ, Nat.add_zero] at c0 c1 c2 c3 c4 c5 c6 c7
      obtain ⟨ao, co, rfl, hco1, hco2⟩ := (ownD_rd hOu).slice
      have la : Later wo (wo.alloc (.cells #[.int .u8 x.p, .int .u32 x.s, .int .u32 x.d, .int .u16 x.a, .int .u16 x.b, .int .i64 x.id, .int .i64 x.till, .int .i64 x.turn] 86)) := (Below.refl _ _).alloc (Nat.le_refl _) _
      have hx0 := heap_alloc_new wo (.cells #[.int .u8 x.p, .int .u32 x.s, .int .u32 x.d, .int .u16 x.a, .int .u16 x.b, .int .i64 x.id, .int .i64 x.till, .int .i64 x.turn] 86)
      have hsz : (wo.alloc (.cells #[.int .u8 x.p, .int .u32 x.s, .int .u32 x.d, .int .u16 x.a, .int .u16 x.b, .int .i64 x.id, .int .i64 x.till, .int .i64 x.turn] 86)).heap.size = wo.heap.size + 1 := by simp
      have HRO := hide (ownD_rd (ownD_later hOu la))
      have HL1 := hide (hlw.trans la)
      go_wp2_with fail
      clear c0 c1 c2 c3 c4 c5 c6 c7 kT hTr
      generalize hw1 : wo.alloc _ = w1 at *
      have hS1 : wo.heap.size < w1.heap.size := by omega
      go_loopw [6, 7, 8] (fun lv pl j wi => ∃ m : Nat, m ≤ out.length ∧ j = .int .i64 (m : Int) ∧ pl = .bool (pst x (out.take m)).2 ∧ wi.ownsRow w1.heap.size 86 8 lv (pst x (out.take m)).1.length (rws (pst x (out.take m)).1) ∧ Later w1 wi) (fun _ _ j _ => out.length - (intOf j).toNat)
      case atStart => exact ⟨0, by omega, rfl, rfl, World.ownsRow_nil _ _ _ _, Below.refl _ _⟩
      case round =>
        obtain ⟨m, hm, rfl, rfl, hOw, hbi⟩ := hrel
        by_cases hml : m < out.length
        · have hml' : (m : Int) < out.length := by omega
          obtain ⟨b2, off2, cp2, e, _, _, hb2, hcs⟩ := (HRO.out.below hbi).cells (by omega)
          simp at e
          obtain ⟨rfl, rfl⟩ := e
          have hsn2 : pst x (out.take (m + 1)) = stp x (pst x (out.take m)) out[m] := by rw [← List.take_append_getElem hml, pst_snoc]
          have hpl : (pst x (out.take m)).1.length ≤ 4000 := by have := pst_len x (out.take m); rw [List.length_take] at this; omega
          have d0 := hcs m hml 0 (by omega)
          have d1 := hcs m hml 1 (by omega)
          have d2 := hcs m hml 2 (by omega)
          have d3 := hcs m hml 3 (by omega)
          have d4 := hcs m hml 4 (by omega)
          have d5 := hcs m hml 5 (by omega)
          have d6 := hcs m hml 6 (by omega)
          have d7 := hcs m hml 7 (by omega)
          clear hcs
          generalize out[m] = y at *
          have HSN2 := hide hsn2
          clear hsn2
          generalize pst x (out.take m) = q at *
          obtain ⟨M, b⟩ := q
          simp only at hOw hpl
          simp only [rwc, List.getElem?_cons_zero, List.getElem?_cons_succ, Nat.add_zero] at d0 d1 d2 d3 d4 d5 d6 d7
          obtain ⟨sm, cm, rfl, _, _⟩ := (ownD_rd hOw).slice
          have lb : Later wr (wr.alloc (.cells #[.int .u8 y.p, .int .u32 y.s, .int .u32 y.d, .int .u16 y.a, .int .u16 y.b, .int .i64 y.id, .int .i64 y.till, .int .i64 y.turn] 86)) := (Below.refl _ _).alloc (Nat.le_refl _) _
          have hy0 := heap_alloc_new wr (.cells #[.int .u8 y.p, .int .u32 y.s, .int .u32 y.d, .int .u16 y.a, .int .u16 y.b, .int .i64 y.id, .int .i64 y.till, .int .i64 y.turn] 86)
          have HO2 := hide (ownD_later hOw lb)
          have hx2 := later_keep (hbi.trans lb) hx0
          have HB2 := hide (hbi.trans lb)
          have HLT := hide (fun g e => (hOw.lt g e).2)
          go_upto_region 12 with fail
          clear d0 d1 d2 d3 d4 d5 d6 d7 hb2
          generalize wr.alloc _ = w2 at *
          have HN2 : Hid (w1.heap.size ≤ w2.heap.size) := hide HB2.out.size
          have kx := block_cell hx2
          have ky := block_cell hy0
          have hcase : (b = false ∧ ltR x y = true ∧ x.till < y.till) ∨ (b = false ∧ ltR x y = true ∧ ¬ x.till < y.till ∧ x.till = y.till ∧ x.turn < y.turn) ∨ b = true ∨ (b = false ∧ ltR x y = false ∧ ¬ x.till < y.till ∧ ¬ x.till = y.till) ∨ (b = false ∧ ltR x y = false ∧ ¬ x.till < y.till ∧ x.till = y.till ∧ ¬ x.turn < y.turn) := by
            cases b with
            | true => exact .inr (.inr (.inl rfl))
            | false =>
              cases h : ltR x y with
              | true => rw [ltR_iff] at h; by_cases h1 : x.till < y.till; (· exact .inl ⟨rfl, rfl, h1⟩); (· exact .inr (.inl ⟨rfl, rfl, h1, by omega, by omega⟩))
              | false => rw [ltR_false] at h; by_cases h1 : x.till = y.till; (· exact .inr (.inr (.inr (.inr ⟨rfl, rfl, by omega, h1, by omega⟩)))); (· exact .inr (.inr (.inr (.inl ⟨rfl, rfl, by omega, h1⟩))))
          rcases hcase with ⟨rfl, hc, h1⟩ | ⟨rfl, hc, h1, h2, h3⟩ | rfl | ⟨rfl, hc, h1, h2⟩ | ⟨rfl, hc, h1, h2, h3⟩
          · go_upto_region 13 with fail
            clear h1
            have hst : stp x (M, false) y = (M ++ [x] ++ [y], true) := (by unfold stp; simp [hc]); have HST := hide hst; clear hst hc; go_wp2_with (at_builtin; refine wpList_appd rfl (.tmp 63) (.tmp 65) rfl w1.heap.size _ M x rfl rfl HO2.out HN2.out (by omega) ?_; intro g3 cp3 w3 ho3 hb3 hbt3; refine Hid.out ?_); have hy3 := (hbt3.block wr.heap.size (Array.getElem?_eq_some_iff.1 hy0).1 (fun e => by have := HLT.out _ e; omega)).trans hy0; have ky3 := block_cell hy3; have HO3 := hide ho3; have HN3 : Hid (w1.heap.size ≤ w3.heap.size) := hide (Nat.le_trans HN2.out hb3.size); clear kx ky ho3; show wpList _ _ _ _ _ _; go_wp2_with (at_builtin; refine wpList_appd rfl (.tmp 67) (.tmp 69) rfl w1.heap.size _ (M ++ [x]) y rfl (by simp [go_sem]) HO3.out HN3.out (by simp; omega) ?_; intro g4 cp4 w4 ho4 hb4 hbt4); rw [show (M ++ [x]).length + 1 = M.length + 1 + 1 from by simp] at ho4; go_roundw; (case rel => exact ⟨m + 1, by omega, by go_num, by rw [HSN2.out, HST.out], by rw [HSN2.out, HST.out]; exact ho4, (show Later w1 w4 from Below.trans HB2.out (Below.trans hb3 hb4))⟩); (case measure => simp [intOf]; omega)
          · go_upto_region 13 with fail
            clear h1 h2 h3
            have hst : stp x (M, false) y = (M ++ [x] ++ [y], true) := (by unfold stp; simp [hc]); have HST := hide hst; clear hst hc; go_wp2_with (at_builtin; refine wpList_appd rfl (.tmp 63) (.tmp 65) rfl w1.heap.size _ M x rfl rfl HO2.out HN2.out (by omega) ?_; intro g3 cp3 w3 ho3 hb3 hbt3; refine Hid.out ?_); have hy3 := (hbt3.block wr.heap.size (Array.getElem?_eq_some_iff.1 hy0).1 (fun e => by have := HLT.out _ e; omega)).trans hy0; have ky3 := block_cell hy3; have HO3 := hide ho3; have HN3 : Hid (w1.heap.size ≤ w3.heap.size) := hide (Nat.le_trans HN2.out hb3.size); clear kx ky ho3; show wpList _ _ _ _ _ _; go_wp2_with (at_builtin; refine wpList_appd rfl (.tmp 67) (.tmp 69) rfl w1.heap.size _ (M ++ [x]) y rfl (by simp [go_sem]) HO3.out HN3.out (by simp; omega) ?_; intro g4 cp4 w4 ho4 hb4 hbt4); rw [show (M ++ [x]).length + 1 = M.length + 1 + 1 from by simp] at ho4; go_roundw; (case rel => exact ⟨m + 1, by omega, by go_num, by rw [HSN2.out, HST.out], by rw [HSN2.out, HST.out]; exact ho4, (show Later w1 w4 from Below.trans HB2.out (Below.trans hb3 hb4))⟩); (case measure => simp [intOf]; omega)
          · go_upto_region 15 with fail
            have hst : stp x (M, true) y = (M ++ [y], true) := (stp_true x M y); have HST := hide hst; clear hst; go_wp2_with (at_builtin; refine wpList_appd rfl (.tmp 67) (.tmp 69) rfl w1.heap.size _ M y rfl rfl HO2.out HN2.out (by omega) ?_; intro g4 cp4 w4 ho4 hb4 hbt4); go_roundw; (case rel => exact ⟨m + 1, by omega, by go_num, by rw [HSN2.out, HST.out], by rw [HSN2.out, HST.out]; exact ho4, (show Later w1 w4 from Below.trans HB2.out hb4)⟩); (case measure => simp [intOf]; omega)
          · go_upto_region 15 with fail
            have HC := hide hc
            clear h1 h2 hc
            have hst : stp x (M, false) y = (M ++ [y], false) := (stp_no HC.out); have HST := hide hst; clear hst; go_wp2_with (at_builtin; refine wpList_appd rfl (.tmp 67) (.tmp 69) rfl w1.heap.size _ M y rfl rfl HO2.out HN2.out (by omega) ?_; intro g4 cp4 w4 ho4 hb4 hbt4); go_roundw; (case rel => exact ⟨m + 1, by omega, by go_num, by rw [HSN2.out, HST.out], by rw [HSN2.out, HST.out]; exact ho4, (show Later w1 w4 from Below.trans HB2.out hb4)⟩); (case measure => simp [intOf]; omega)
          · go_upto_region 15 with fail
            have HC := hide hc
            clear h1 h2 hc
            have hst : stp x (M, false) y = (M ++ [y], false) := (stp_no HC.out); have HST := hide hst; clear hst; go_wp2_with (at_builtin; refine wpList_appd rfl (.tmp 67) (.tmp 69) rfl w1.heap.size _ M y rfl rfl HO2.out HN2.out (by omega) ?_; intro g4 cp4 w4 ho4 hb4 hbt4); go_roundw; (case rel => exact ⟨m + 1, by omega, by go_num, by rw [HSN2.out, HST.out], by rw [HSN2.out, HST.out]; exact ho4, (show Later w1 w4 from Below.trans HB2.out hb4)⟩); (case measure => simp [intOf]; omega)
        · obtain rfl : m = out.length := by omega
          rw [List.take_length] at hOw
          have hend := pst_end x out
          have hpl : (pst x out).1.length ≤ 4000 := by have := pst_len x out; omega
          have hx2 := later_keep hbi hx0
          have kx := block_cell hx2
          simp only [List.take_length]
          generalize pst x out = q at *
          obtain ⟨M, b⟩ := q
          simp only at hOw hpl hend
          obtain ⟨sm, cm, rfl, _, _⟩ := (ownD_rd hOw).slice
          have HOW := hide hOw
          have HND := hide hend
          clear hOw hend
          have HLB := hide hbi
          cases b with
          | true =>
            go_wp2_with fail
            go_roundw
            case rel => exact ⟨k + 1, by omega, by go_num, by rw [HSN.out, ← HND.out]; exact ownD_base HOW.out (by have := hlw.size; omega), HL1.out.trans HLB.out⟩
            case measure => simp [intOf]; omega
          | false =>
            go_wp2_with (at_builtin; refine wpList_appd rfl (.tmp 73) (.tmp 75) rfl w1.heap.size _ M x rfl rfl HOW.out HLB.out.size (by omega) ?_; intro g4 cp4 w4 ho4 hb4 hbt4)
            go_roundw
            case rel => exact ⟨k + 1, by omega, by go_num, by rw [HSN.out, ← HND.out]; exact ownD_base ho4 (by have := hlw.size; omega), HL1.out.trans (show Later w1 w4 from Below.trans HLB.out hb4)⟩
            case measure => simp [intOf]; omega
    · obtain rfl : k = l.length := by omega
      rw [List.take_length] at hOu
      go_wp2_with fail
      go_ret
      exact ⟨hlw, _, rfl, hOu⟩
end Go.Proofs.Ytahphjindjlcpaa

/- The document's Get, Due, First, Len. -/
namespace Go.Proofs.Ytahphjindjlcpaa
open Go.RowKit Go.Shelf
set_option maxRecDepth 100000
set_option linter.unusedVariables false
set_option linter.unusedSimpArgs false

/-- What the document's Get answers. -/
def rgv (p s d a b : Int) (l : List Rw) : Value := match kix p s d (kyp p a) b l with | none => .tuple #[.int .i64 0, .int .i64 0, .bool false] | some k => match l[k]? with | some r => .tuple #[.int .i64 r.id, .int .i64 r.till, .bool true] | none => undef

theorem rel_rgv {ls : Nat → List Rw} {l : List Rw} (h : Rel ls l) (p s d a b : Int) : gtv p s d a b ls = rgv p s d a b l := by
  unfold rgv gtv
  cases hk : kix p s d (kyp p a) b l with
  | none => rw [(h.kxe p s d a b).2 hk]
  | some k =>
    obtain ⟨hkl, hks⟩ := kix_at hk
    have hm := (h.mem l[k]).1 (List.getElem_mem hkl)
    rw [bkr_key hks] at hm
    obtain ⟨i, hi, e⟩ := List.getElem_of_mem hm
    have hx : kx p s d a b ls = some i := by
      unfold kx
      cases hn : kix p s d (kyp p a) b (ls (bki p s d a b)) with
      | none =>
        have := kix_none_iff.1 hn _ hm
        rw [hks] at this
        cases this
      | some j =>
        obtain ⟨hj, hj2⟩ := kix_at hn
        rw [h.uq _ p s d (kyp p a) b j i hj hi hj2 (by rw [e]; exact hks)]
    rw [hx]
    simp only [List.getElem?_eq_getElem hi, List.getElem?_eq_getElem hkl, e]

set_option maxHeartbeats 4000000 in
theorem rget6_any (base bt : Nat) (v : Value) (lim sq : Int) (l : List Rw) (p s d a b : Int) (w : World) (hT : DT base w bt v lim sq l) :
    Calls Try.prog 21 #[.pointer (some ⟨bt, 0, none⟩), .agg #[.int .u8 p, .int .u32 s, .int .u32 d, .int .u16 a, .int .u16 b]] w fun e w' => e = .returned (rgv p s d a b l) ∧ Later w w' := by
  have lb0 : Later w (w.alloc (.cells #[.int .u8 p, .int .u32 s, .int .u32 d, .int .u16 a, .int .u16 b] 26)) := (Below.refl _ _).alloc (Nat.le_refl _) _
  have HAT := hide (fun W (hW : Later w W) => at_any base bt v lim sq l p s d a b W (hT.later hW))
  obtain ⟨av, cv, rfl, hcv1, hcv2⟩ := (ownD_rd hT.2.2).slice
  go_enter Try.func21, Try.ntmps21
  go_wp2_with fail
  generalize w.alloc _ = w0 at *
  refine (HAT.out w0 lb0).mono ?_
  rintro e w1 ⟨rfl, l1⟩
  have L1 := lb0.trans l1
  cases hk : kix p s d (kyp p a) b l with
  | none =>
    have HG : Hid (rgv p s d a b l = .tuple #[.int .i64 0, .int .i64 0, .bool false]) := by show _ = _; unfold rgv; rw [hk]
    clear hk
    rw [rix_none]
    go_wp2_with fail
    exact bodyPost_ret (v := .tuple #[.int .i64 0, .int .i64 0, .bool false]) (by simp [results, Try.results21, go_sem]) rfl ⟨by rw [HG.out], L1⟩
  | some k =>
    obtain ⟨hkl, hks⟩ := kix_at hk
    have HG : Hid (rgv p s d a b l = .tuple #[.int .i64 l[k].id, .int .i64 l[k].till, .bool true]) := by show _ = _; unfold rgv; rw [hk]; simp [hkl]
    clear hk hks
    rw [rix_some]
    have hk0 : ¬ (k : Int) < 0 := by omega
    have hkl' : (k : Int) < l.length := by omega
    have hT1 := hT.later L1
    obtain ⟨bb, off, cp, e, _, _, hbb, hcs⟩ := (ownD_rd hT1.2.2).cells (by omega)
    simp at e
    obtain ⟨rfl, rfl⟩ := e
    have c5 := hcs k hkl 5 (by omega)
    have c6 := hcs k hkl 6 (by omega)
    clear hcs
    have kT := block_cell hT1.2.1
    have c0 := kT 0
    clear kT
    generalize l[k] = r at *
    simp only [rwc, List.getElem?_cons_zero, List.getElem?_cons_succ] at c5 c6
    simp at c0
    go_upto_region 4 with fail
    refine anyR_begin (R := Later) Later.pre Later.drew 19 rfl (by kernel_rfl) (fun V1 hV1 => ?_)
    have q0 : ∀ v1, Later V1 v1 → v1.cell? ⟨bt, 0, none⟩ = some (.slice (some ⟨bb, off, none⟩) l.length cv) := fun v1 h => (hV1.trans h).cell c0
    have q5 : ∀ v1, Later V1 v1 → v1.cell? ⟨bb, off + k * 8 + 5, none⟩ = some (.int .i64 r.id) := fun v1 h => (hV1.trans h).cell c5
    have q6 : ∀ v1, Later V1 v1 → v1.cell? ⟨bb, off + k * 8 + 6, none⟩ = some (.int .i64 r.till) := fun v1 h => (hV1.trans h).cell c6
    clear c0 c5 c6
    refine anyR_val Later.pre 0 rfl (by kernel_rfl) (by kernel_rfl) (by kernel_rfl) (fun _ _ _ _ h => h) rfl ?_; apply Exists.intro; refine ⟨fun w1 hw1 => ?_, ?_⟩; (· (go_simp; rfl)); simp only [Act.put, List.setIfInBounds_toArray, List.set_cons_zero, List.set_cons_succ]
    refine anyR_val Later.pre 1 rfl (by kernel_rfl) (by kernel_rfl) (by kernel_rfl) (fun _ _ _ _ h => h) rfl ?_; apply Exists.intro; refine ⟨fun w1 hw1 => ?_, ?_⟩; (· (go_simp; rfl)); simp only [Act.put, List.setIfInBounds_toArray, List.set_cons_zero, List.set_cons_succ]
    refine anyR_val Later.pre 2 rfl (by kernel_rfl) (by kernel_rfl) (by kernel_rfl) (fun _ _ _ _ h => h) rfl ?_; apply Exists.intro; refine ⟨fun w1 hw1 => ?_, ?_⟩; (· (go_simp; rfl)); simp only [Act.put, List.setIfInBounds_toArray, List.set_cons_zero, List.set_cons_succ]
    refine anyR_val Later.pre 3 rfl (by kernel_rfl) (by kernel_rfl) (by kernel_rfl) (fun _ _ _ _ h => h) rfl ?_; apply Exists.intro; refine ⟨fun w1 hw1 => ?_, ?_⟩; (· (go_simp; rfl)); simp only [Act.put, List.setIfInBounds_toArray, List.set_cons_zero, List.set_cons_succ]
    refine anyR_val Later.pre 4 rfl (by kernel_rfl) (by kernel_rfl) (by kernel_rfl) (fun _ _ _ _ h => h) rfl ?_; apply Exists.intro; refine ⟨fun w1 hw1 => ?_, ?_⟩; (· (go_simp; rfl)); simp only [Act.put, List.setIfInBounds_toArray, List.set_cons_zero, List.set_cons_succ]
    refine anyR_val Later.pre 5 rfl (by kernel_rfl) (by kernel_rfl) (by kernel_rfl) (fun _ _ _ _ h => h) rfl ?_; apply Exists.intro; refine ⟨fun w1 hw1 => ?_, ?_⟩; (· (go_simp; rfl)); simp only [Act.put, List.setIfInBounds_toArray, List.set_cons_zero, List.set_cons_succ]
    refine anyR_val Later.pre 6 rfl (by kernel_rfl) (by kernel_rfl) (by kernel_rfl) (fun _ _ _ _ h => h) rfl ?_; apply Exists.intro; refine ⟨fun w1 hw1 => ?_, ?_⟩; (· (go_simp; rfl)); simp only [Act.put, List.setIfInBounds_toArray, List.set_cons_zero, List.set_cons_succ]
    refine anyR_val Later.pre 7 rfl (by kernel_rfl) (by kernel_rfl) (by kernel_rfl) (fun _ _ _ _ h => h) rfl ?_; apply Exists.intro; refine ⟨fun w1 hw1 => ?_, ?_⟩; (· (go_simp; rfl)); simp only [Act.put, List.setIfInBounds_toArray, List.set_cons_zero, List.set_cons_succ]
    refine anyR_val Later.pre 8 rfl (by kernel_rfl) (by kernel_rfl) (by kernel_rfl) (fun _ _ _ _ h => h) rfl ?_; apply Exists.intro; refine ⟨fun w1 hw1 => ?_, ?_⟩; (· (go_simp; rfl)); simp only [Act.put, List.setIfInBounds_toArray, List.set_cons_zero, List.set_cons_succ]
    refine anyR_val Later.pre 9 rfl (by kernel_rfl) (by kernel_rfl) (by kernel_rfl) (fun _ _ _ _ h => h) rfl ?_; apply Exists.intro; refine ⟨fun w1 hw1 => ?_, ?_⟩; (· (go_simp; rfl)); simp only [Act.put, List.setIfInBounds_toArray, List.set_cons_zero, List.set_cons_succ]
    refine anyR_val Later.pre 10 rfl (by kernel_rfl) (by kernel_rfl) (by kernel_rfl) (fun _ _ _ _ h => h) rfl ?_; apply Exists.intro; refine ⟨fun w1 hw1 => ?_, ?_⟩; (· (go_simp; rfl)); simp only [Act.put, List.setIfInBounds_toArray, List.set_cons_zero, List.set_cons_succ]
    refine anyR_val Later.pre 11 rfl (by kernel_rfl) (by kernel_rfl) (by kernel_rfl) (fun _ _ _ _ h => h) rfl ?_; apply Exists.intro; refine ⟨fun w1 hw1 => ?_, ?_⟩; (· (go_simp; rfl)); simp only [Act.put, List.setIfInBounds_toArray, List.set_cons_zero, List.set_cons_succ]
    refine anyR_val Later.pre 12 rfl (by kernel_rfl) (by kernel_rfl) (by kernel_rfl) (fun _ _ _ _ h => h) rfl ?_; apply Exists.intro; refine ⟨fun w1 hw1 => ?_, ?_⟩; (· (go_simp; rfl)); simp only [Act.put, List.setIfInBounds_toArray, List.set_cons_zero, List.set_cons_succ]
    refine anyR_val Later.pre 13 rfl (by kernel_rfl) (by kernel_rfl) (by kernel_rfl) (fun _ _ _ _ h => h) rfl ?_; apply Exists.intro; refine ⟨fun w1 hw1 => ?_, ?_⟩; (· (go_simp; rfl)); simp only [Act.put, List.setIfInBounds_toArray, List.set_cons_zero, List.set_cons_succ]
    refine anyR_val Later.pre 14 rfl (by kernel_rfl) (by kernel_rfl) (by kernel_rfl) (fun _ _ _ _ h => h) rfl ?_; apply Exists.intro; refine ⟨fun w1 hw1 => ?_, ?_⟩; (· (go_simp; rfl)); simp only [Act.put, List.setIfInBounds_toArray, List.set_cons_zero, List.set_cons_succ]
    refine anyR_val Later.pre 15 rfl (by kernel_rfl) (by kernel_rfl) (by kernel_rfl) (fun _ _ _ _ h => h) rfl ?_; apply Exists.intro; refine ⟨fun w1 hw1 => ?_, ?_⟩; (· (go_simp; rfl)); simp only [Act.put, List.setIfInBounds_toArray, List.set_cons_zero, List.set_cons_succ]
    refine anyR_val Later.pre 16 rfl (by kernel_rfl) (by kernel_rfl) (by kernel_rfl) (fun _ _ _ _ h => h) rfl ?_; apply Exists.intro; refine ⟨fun w1 hw1 => ?_, ?_⟩; (· (go_simp; rfl)); simp only [Act.put, List.setIfInBounds_toArray, List.set_cons_zero, List.set_cons_succ]
    refine anyR_val Later.pre 17 rfl (by kernel_rfl) (by kernel_rfl) (by kernel_rfl) (fun _ _ _ _ h => h) rfl ?_; apply Exists.intro; refine ⟨fun w1 hw1 => ?_, ?_⟩; (· (go_simp; rfl)); simp only [Act.put, List.setIfInBounds_toArray, List.set_cons_zero, List.set_cons_succ]
    refine anyR_val Later.pre 18 rfl (by kernel_rfl) (by kernel_rfl) (by kernel_rfl) (fun _ _ _ _ h => h) rfl ?_; apply Exists.intro; refine ⟨fun w1 hw1 => ?_, ?_⟩; (· (go_simp; rfl)); simp only [Act.put, List.setIfInBounds_toArray, List.set_cons_zero, List.set_cons_succ]
    refine anyR_done (by kernel_rfl) (fun V2 hV2 => ?_)
    have hw2 := L1.trans (hV1.trans hV2)
    clear q0 q5 q6
    go_wp2_with fail
    exact bodyPost_ret (v := .tuple #[.int .i64 r.id, .int .i64 r.till, .bool true]) (by simp [results, Try.results21, go_sem]) rfl ⟨by rw [HG.out], hw2⟩

set_option maxHeartbeats 2000000 in
theorem rlen6_any (base bt : Nat) (v : Value) (lim sq : Int) (l : List Rw) (w : World) (hT : DT base w bt v lim sq l) :
    Calls Try.prog 24 #[.pointer (some ⟨bt, 0, none⟩)] w fun e w' => e = .returned (.int .i64 (l.length : Nat)) ∧ Later w w' := by
  obtain ⟨av, cv, rfl, hcv1, hcv2⟩ := (ownD_rd hT.2.2).slice
  have kT := block_cell hT.2.1
  go_enter Try.func24, Try.ntmps24
  go_wp2_with fail
  go_ret
  exact ⟨rfl, Later.refl _⟩

/-- What First answers of rows in order. -/
def frv (X : List Rw) : Value := match X with | [] => .tuple #[.agg #[.int .u8 0, .int .u32 0, .int .u32 0, .int .u16 0, .int .u16 0], .bool false] | r :: _ => .tuple #[.agg (rwk r).toArray, .bool true]

set_option maxHeartbeats 4000000 in
theorem rfirst6_any (base bt : Nat) (v : Value) (lim sq : Int) (l : List Rw) (w : World) (hT : DT base w bt v lim sq l) (hl : l.length ≤ 2000) :
    Calls Try.prog 23 #[.pointer (some ⟨bt, 0, none⟩)] w fun e w' => e = .returned (frv (ordD l)) ∧ Later w w' := by
  have lb0 : Later w (w.alloc (.cells #[.int .u8 0, .int .u32 0, .int .u32 0, .int .u16 0, .int .u16 0] 26)) := (Below.refl _ _).alloc (Nat.le_refl _) _
  have c0 := heap_alloc_new w (.cells #[.int .u8 0, .int .u32 0, .int .u32 0, .int .u16 0, .int .u16 0] 26)
  go_enter Try.func23, Try.ntmps23
  go_wp2_with fail
  generalize w.alloc _ = w0 at *
  refine (rordered_any base bt v lim sq l w0 (hT.later lb0) hl).mono ?_
  rintro e w1 ⟨l1, u, rfl, hOu⟩
  have L1 := lb0.trans l1
  have r1 := later_keep l1 c0
  have r2 := block_cell r1
  have f2 := block_frozen r1
  cases hX : ordD l with
  | nil =>
    rw [hX] at hOu
    have HX := hide hX
    obtain ⟨av, cv, rfl, hcv1, hcv2⟩ := (ownD_rd hOu).slice
    simp only [List.length_nil]
    go_wp2_with fail
    change bodyPost _ _ _ _ _ (putRow w1 w.heap.size 0 [.int .u8 0, .int .u32 0, .int .u32 0, .int .u16 0, .int .u16 0])
    have v1 := putRow_all [.int .u8 0, .int .u32 0, .int .u32 0, .int .u16 0, .int .u16 0] r1 rfl
    have hbl : Below w.heap.size w1 (putRow w1 w.heap.size 0 [.int .u8 0, .int .u32 0, .int .u32 0, .int .u16 0, .int .u16 0]) := (putRow_rb (rb := w.heap.size) _ w1).below L1.size (fun k hk e => by omega)
    generalize putRow w1 w.heap.size 0 _ = V at *
    have k1 := block_cell v1
    refine bodyPost_ret (v := .tuple #[.agg #[.int .u8 0, .int .u32 0, .int .u32 0, .int .u16 0, .int .u16 0], .bool false]) (by simp [results, Try.results23, go_sem, k1]) rfl ⟨by rw [HX.out]; rfl, Below.trans L1 hbl⟩
  | cons r X =>
    rw [hX] at hOu
    have HX := hide hX
    obtain ⟨av, cv, rfl, hcv1, hcv2⟩ := (ownD_rd hOu).slice
    obtain ⟨bb, off, cp, e, _, _, hbb, hcs⟩ := (ownD_rd hOu).cells (by simp)
    simp at e
    obtain ⟨rfl, rfl⟩ := e
    have d0 := hcs 0 (by simp) 0 (by omega)
    have d1 := hcs 0 (by simp) 1 (by omega)
    have d2 := hcs 0 (by simp) 2 (by omega)
    have d3 := hcs 0 (by simp) 3 (by omega)
    have d4 := hcs 0 (by simp) 4 (by omega)
    clear hcs hX
    have hcl : (r :: X).length = X.length + 1 := rfl
    simp only [List.getElem_cons_zero, rwc, List.getElem?_cons_zero, List.getElem?_cons_succ, Nat.add_zero, Nat.zero_mul] at d0 d1 d2 d3 d4
    have hne : ¬ ((X.length : Int) + 1 = 0) := by omega
    have hpos : (0 : Int) < (X.length : Int) + 1 := by omega
    go_wp2_with fail
    change bodyPost _ _ _ _ _ (putRow w1 w.heap.size 0 (rwk r))
    have v1 := putRow_all (rwk r) r1 rfl
    have hbl : Below w.heap.size w1 (putRow w1 w.heap.size 0 (rwk r)) := (putRow_rb (rb := w.heap.size) (rwk r) w1).below L1.size (fun k hk e => by omega)
    generalize putRow w1 w.heap.size 0 (rwk r) = V at *
    have k1 := block_cell v1
    simp only [rwk] at k1
    refine bodyPost_ret (v := .tuple #[.agg (rwk r).toArray, .bool true]) (by simp [results, Try.results23, go_sem, k1, rwk]) rfl ⟨by rw [HX.out]; rfl, Below.trans L1 hbl⟩
end Go.Proofs.Ytahphjindjlcpaa

/- The law's sameKeys. -/
namespace Go.Proofs.Ytahphjindjlcpaa
open Go.RowKit Go.Shelf
set_option maxRecDepth 100000
set_option linter.unusedVariables false
set_option linter.unusedSimpArgs false

theorem keys_at {w : World} {g : Nat} {X : List Rw} (h : w.heap[g]? = some (.cells (rks X).toArray 26 (0, 0))) (k : Nat) (hk : k < X.length) (i : Nat) (hi : i < 5) : w.cell? ⟨g, k * 5 + i, none⟩ = (rwk X[k])[i]? := by
  rw [block_cell h, List.getElem?_toArray, rks_at X k i hk hi]

set_option maxHeartbeats 4000000 in
theorem sameKeys_yes (ga gb cb : Nat) (X Y : List Rw) (w : World) (hx : w.heap[ga]? = some (.cells (rks X).toArray 26 (0, 0))) (hy : w.heap[gb]? = some (.cells (rks Y).toArray 26 (0, 0))) (hXY : X = Y.take X.length) (hl : X.length ≤ 100) (hc : X.length ≤ cb ∧ cb ≤ 1000) :
    Calls Try.prog 25 #[.slice (some ⟨ga, 0, none⟩) X.length X.length, .slice (some ⟨gb, 0, none⟩) X.length cb] w fun e w' => e = .returned (.bool true) ∧ Below w.heap.size w w' := by
  have HXY := hide hXY
  have HX := hide hx
  have HY := hide hy
  clear hXY hx hy
  go_enter Try.func25, Try.ntmps25
  go_wp2_with fail
  go_loopw [5] (fun i wr => ∃ k : Nat, k ≤ X.length ∧ i = .int .i64 (k : Int) ∧ Later w wr) (fun i _ => X.length - (intOf i).toNat)
  case atStart => exact ⟨0, by omega, rfl, Below.refl _ _⟩
  case round =>
    obtain ⟨k, hk, rfl, hlw⟩ := hrel
    by_cases hlt : k < X.length
    · have hlt' : (k : Int) < X.length := by omega
      have hYl : k < Y.length := by
        have := congrArg List.length HXY.out
        rw [List.length_take] at this
        omega
      have hxy : X[k] = Y[k] := by
        have e : X[k]? = Y[k]? := by
          rw [HXY.out, List.getElem?_take, if_pos hlt]
        rw [List.getElem?_eq_getElem hlt, List.getElem?_eq_getElem hYl] at e
        simpa using e
      have fx := keys_at (later_keep hlw HX.out) k hlt
      have fy := keys_at (later_keep hlw HY.out) k hYl
      rw [← hxy] at fy
      have a0 := fx 0 (by omega)
      have a1 := fx 1 (by omega)
      have a2 := fx 2 (by omega)
      have a3 := fx 3 (by omega)
      have a4 := fx 4 (by omega)
      have b0 := fy 0 (by omega)
      have b1 := fy 1 (by omega)
      have b2 := fy 2 (by omega)
      have b3 := fy 3 (by omega)
      have b4 := fy 4 (by omega)
      clear fx fy hxy
      generalize X[k] = r at *
      simp only [rwk, List.getElem?_cons_zero, List.getElem?_cons_succ, Nat.add_zero] at a0 a1 a2 a3 a4 b0 b1 b2 b3 b4
      go_upto_region 6 with fail
      go_quiet (fail)
      have hld : Later w (wr.drewN nq) := hlw.trans (below_draw (Below.refl _ _) nq)
      go_wp2_with fail
      go_roundw
      case rel => exact ⟨k + 1, by omega, by go_num, hld⟩
      case measure => simp [intOf]; omega
    · obtain rfl : k = X.length := by omega
      go_wp2_with fail
      go_ret
      exact ⟨by simp, hlw⟩
end Go.Proofs.Ytahphjindjlcpaa

/- The document's Due; the law's sameKeys of both answers. -/
namespace Go.Proofs.Ytahphjindjlcpaa
open Go.RowKit Go.Shelf
set_option maxRecDepth 100000
set_option linter.unusedVariables false
set_option linter.unusedSimpArgs false

theorem ownX_later {t : TypeId} {sz base : Nat} {A B : World} {v : Value} {n : Nat} {xs : List Value} (h : A.ownsRow base t sz v n xs) (l : Later A B) : B.ownsRow base t sz v n xs := by
  obtain ⟨h1, h2 | ⟨g, cap, cur, hv, hg, hh, r⟩⟩ := h
  · exact ⟨h1, .inl h2⟩
  · exact ⟨h1, .inr ⟨g, cap, cur, hv, hg, later_keep l hh, r⟩⟩
theorem ownX_base {t : TypeId} {sz b1 b2 : Nat} {W : World} {v : Value} {n : Nat} {xs : List Value} (h : W.ownsRow b1 t sz v n xs) (hb : b2 ≤ b1) : W.ownsRow b2 t sz v n xs := by
  obtain ⟨h1, h2 | ⟨g, cap, cur, e, hg, r⟩⟩ := h
  · exact ⟨h1, .inl h2⟩
  · exact ⟨h1, .inr ⟨g, cap, cur, e, by omega, r⟩⟩
theorem ownX_cases {base : Nat} {W : World} {v : Value} {X : List Rw} (h : W.ownsRow base 26 5 v X.length (rks X)) : (X = [] ∧ v = .slice none 0 0) ∨ ∃ g cap, v = .slice (some ⟨g, 0, none⟩) X.length cap ∧ X.length ≤ cap ∧ cap ≤ 9223372036854775807 ∧ g < W.heap.size ∧ ∀ k (hk : k < X.length) i, i < 5 → W.cell? ⟨g, k * 5 + i, none⟩ = (rwk X[k])[i]? := by
  obtain ⟨h1, ⟨rfl, h0⟩ | ⟨g, cap, cur, rfl, hg, hh, hl, hm, hs, hc⟩⟩ := h
  · exact .inl ⟨List.eq_nil_of_length_eq_zero h0, rfl⟩
  · refine .inr ⟨g, cap, rfl, hl, by simpa [maxLen] using hm, (Array.getElem?_eq_some_iff.1 hh).1, fun k hk i hi => ?_⟩
    rw [block_cell hh, ← rks_at X k i hk hi, ← hc, List.getElem?_take_of_lt (by omega)]
    simp

theorem ownX_slice {base : Nat} {W : World} {v : Value} {X : List Rw} (h : W.ownsRow base 26 5 v X.length (rks X)) : ∃ sm cm, v = .slice sm X.length cm := by
  rcases ownX_cases h with ⟨e1, e2⟩ | ⟨g, cap, e, _⟩
  · exact ⟨none, 0, by rw [e2, e1]; rfl⟩
  · exact ⟨_, _, e⟩

theorem new_key (W : World) (x : Rw) : ∀ j u, (rwk x)[j]? = some u → (W.alloc (.cells (rwk x).toArray 26)).cell? ((⟨W.heap.size, 0, none⟩ : Addr).add j) = some u := fun j u hj => by
  rw [show (⟨W.heap.size, 0, none⟩ : Addr).add j = ⟨W.heap.size, j, none⟩ from by unfold Addr.add; split <;> simp_all, block_cell (heap_alloc_new W _) j]
  simpa using hj

/-- A key more, behind keys of one's own. -/
theorem wpList_appk {ops : Array Oper} {rest : List Oper} {o : Oper} {a : Act} {Q : Exit → Act → World → Prop} {W : World} (hgd : o.guard = none) (s y : Operand)
    (ho : o.op = .call { callee := .builtin .append, args := #[s, y], argTypes := #[50, 50] }) (base : Nat) (v : Value) (M : List Rw) (r : Rw)
    (hs : a.eval s = v) (hy : a.eval y = .slice (some ⟨W.heap.size, 0, none⟩) 1 1) (hown : W.ownsRow base 26 5 v M.length (rks M)) (hb : base ≤ W.heap.size) (hM : M.length ≤ 10000)
    (h : ∀ g cp W2, W2.ownsRow base 26 5 (.slice (some ⟨g, 0, none⟩) (M.length + 1) cp) (M ++ [r]).length (rks (M ++ [r])) → Below base W W2 → wpList Try.prog ops Q rest (a.put o.dst (.slice (some ⟨g, 0, none⟩) (M.length + 1) cp)) W2) :
    wpList Try.prog ops Q (o :: rest) a (W.alloc (.cells (rwk r).toArray 26)) := by
  obtain ⟨i0, hi0, hz0, hz1, hz2⟩ := info_parts info_tupl
  have la : Later W (W.alloc (.cells (rwk r).toArray 26)) := (Below.refl _ _).alloc (Nat.le_refl _) _
  have hnx := new_key W r
  refine wpList_append_own _ hgd s y 50 ho base 26 i0 (.agg #[.int .u8 0, .int .u32 0, .int .u32 0, .int .u16 0, .int .u16 0]) 5 16 Try.underlying50 hi0 hz0 hz1 hz2 rfl (by decide) v M.length (rks M) hs (ownX_later hown la) ⟨W.heap.size, 0, none⟩ 1 1 (rwk r) hy rfl hnx (by intro u hu; simp only [rwk, List.mem_cons, List.not_mem_nil, or_false] at hu; rcases hu with rfl | rfl | rfl | rfl | rfl <;> rfl) (by unfold maxLen; omega) (by omega) (by have := la.size; omega) ?_
  intro v2 W2 hrow hg _
  obtain ⟨g2, cp2, rfl⟩ := ownsRow_succ hrow
  refine h g2 cp2 W2 ?_ ?_
  · rw [rks_snoc, List.length_append, List.length_singleton]
    exact hrow
  · refine (la.mono hb).trans ⟨hg.os, hg.tape, hg.output, hg.size, fun i hi => hg.block i (by have := la.size; omega) (fun e => ?_)⟩
    have := (hown.lt i e.symm).1
    omega

set_option maxHeartbeats 4000000 in
theorem rdue6_any (base bt : Nat) (v : Value) (lim sq now : Int) (l : List Rw) (w : World) (hT : DT base w bt v lim sq l) (hl : l.length ≤ 2000) :
    Calls Try.prog 26 #[.pointer (some ⟨bt, 0, none⟩), .int .i64 now] w fun e w' => Later w w' ∧ ∃ u, e = .returned u ∧ w'.ownsRow w.heap.size 26 5 u (duR now (ordD l)).length (rks (duR now (ordD l))) := by
  have hXl : (ordD l).length ≤ 2000 := by rw [ordD_length]; exact hl
  go_enter Try.func26, Try.ntmps26
  go_wp2_with fail
  refine (rordered_any base bt v lim sq l w hT hl).mono ?_
  rintro e w1 ⟨l1, u, rfl, hOu⟩
  generalize hXE : ordD l = X at *
  have HXE := hide hXE
  clear hXE
  obtain ⟨av, cv, rfl, hcv1, hcv2⟩ := (ownD_rd hOu).slice
  have HRD := hide (ownD_rd hOu)
  have HL1 := hide l1
  clear hOu
  go_wp2_with fail
  go_loopw [5, 7] (fun ov i wr => ∃ k : Nat, k ≤ X.length ∧ i = .int .i64 (k : Int) ∧ wr.ownsRow w1.heap.size 26 5 ov (duR now (X.take k)).length (rks (duR now (X.take k))) ∧ Later w1 wr) (fun _ i _ => X.length - (intOf i).toNat)
  case atStart => exact ⟨0, by omega, rfl, World.ownsRow_nil _ _ _ _, Later.refl _⟩
  case round =>
    obtain ⟨k, hk, rfl, hOw, hlw⟩ := hrel
    by_cases hlt : k < X.length
    · have hlt' : (k : Int) < X.length := by omega
      obtain ⟨bb, off, cp, e, _, _, hbb, hcs⟩ := (HRD.out.below hlw).cells (by omega)
      simp at e
      obtain ⟨rfl, rfl⟩ := e
      have htk : X.take (k + 1) = X.take k ++ [X[k]] := (List.take_append_getElem hlt).symm
      have hdl : (duR now (X.take k)).length ≤ 2000 := by have := duR_length now (X.take k); rw [List.length_take] at this; omega
      have d0 := hcs k hlt 0 (by omega)
      have d1 := hcs k hlt 1 (by omega)
      have d2 := hcs k hlt 2 (by omega)
      have d3 := hcs k hlt 3 (by omega)
      have d4 := hcs k hlt 4 (by omega)
      have d6 := hcs k hlt 6 (by omega)
      clear hcs
      generalize X[k] = r at *
      simp only [rwc, List.getElem?_cons_zero, List.getElem?_cons_succ, Nat.add_zero] at d0 d1 d2 d3 d4 d6
      obtain ⟨sm, cm, rfl⟩ := ownX_slice hOw
      have HTK := hide htk
      have HOW := hide hOw
      have HLW := hide hlw
      clear htk hOw
      by_cases htl : r.till ≤ now
      · have HDU := hide (duR_yes (l := X.take k) htl)
        generalize duR now (X.take k) = M at *
        go_wp2_with (at_builtin; refine wpList_appk rfl (.tmp 23) (.tmp 29) rfl w1.heap.size _ M r rfl rfl HOW.out HLW.out.size (by omega) ?_; intro g4 cp4 w4 ho4 hb4)
        go_roundw
        case rel => exact ⟨k + 1, by omega, by go_num, by rw [HTK.out, HDU.out]; exact ho4, show Below _ _ _ from Below.trans HLW.out hb4⟩
        case measure => simp [intOf]; omega
      · have HDU := hide (duR_no (l := X.take k) htl)
        go_wp2_with fail
        go_roundw
        case rel => exact ⟨k + 1, by omega, by go_num, by rw [HTK.out, HDU.out]; exact HOW.out, HLW.out⟩
        case measure => simp [intOf]; omega
    · obtain rfl : k = X.length := by omega
      rw [List.take_length] at hOw
      obtain ⟨sm, cm, rfl⟩ := ownX_slice hOw
      go_wp2_with fail
      go_ret
      have hfin := ownX_base hOw HL1.out.size
      exact ⟨HL1.out.trans hlw, _, rfl, by rw [HXE.out]; exact hfin⟩

set_option maxHeartbeats 4000000 in
theorem sameKeys_eq (ga base : Nat) (vb : Value) (X : List Rw) (w : World) (hx : w.heap[ga]? = some (.cells (rks X).toArray 26 (0, 0))) (hy : w.ownsRow base 26 5 vb X.length (rks X)) (hl : X.length ≤ 2000) :
    Calls Try.prog 25 #[.slice (some ⟨ga, 0, none⟩) X.length X.length, vb] w fun e w' => e = .returned (.bool true) ∧ Below w.heap.size w w' := by
  have HX := hide hx
  clear hx
  rcases ownX_cases hy with ⟨rfl, rfl⟩ | ⟨gb, cb, rfl, hc1, hc2, hgb, hcs⟩
  · simp only [List.length_nil]
    go_enter Try.func25, Try.ntmps25
    go_wp2_with fail
    go_loopw [5] (fun i wr => i = .int .i64 0 ∧ wr = w) (fun _ _ => 0)
    case atStart => exact ⟨rfl, rfl⟩
    case round =>
      obtain ⟨rfl, rfl⟩ := hrel
      go_wp2_with fail
      go_ret
      exact ⟨by simp, Below.refl _ _⟩
  · have HY := hide hcs
    clear hcs hy
    go_enter Try.func25, Try.ntmps25
    go_wp2_with fail
    go_loopw [5] (fun i wr => ∃ k : Nat, k ≤ X.length ∧ i = .int .i64 (k : Int) ∧ Later w wr) (fun i _ => X.length - (intOf i).toNat)
    case atStart => exact ⟨0, by omega, rfl, Below.refl _ _⟩
    case round =>
      obtain ⟨k, hk, rfl, hlw⟩ := hrel
      by_cases hlt : k < X.length
      · have hlt' : (k : Int) < X.length := by omega
        have fx := keys_at (later_keep hlw HX.out) k hlt
        have fy : ∀ i, i < 5 → wr.cell? ⟨gb, k * 5 + i, none⟩ = (rwk X[k])[i]? := fun i hi => (Below.cell (B := w.heap.size) hlw (p := ⟨gb, k * 5 + i, none⟩) hgb).trans (HY.out k hlt i hi)
        have a0 := fx 0 (by omega)
        have a1 := fx 1 (by omega)
        have a2 := fx 2 (by omega)
        have a3 := fx 3 (by omega)
        have a4 := fx 4 (by omega)
        have b0 := fy 0 (by omega)
        have b1 := fy 1 (by omega)
        have b2 := fy 2 (by omega)
        have b3 := fy 3 (by omega)
        have b4 := fy 4 (by omega)
        clear fx fy
        generalize X[k] = r at *
        simp only [rwk, List.getElem?_cons_zero, List.getElem?_cons_succ, Nat.add_zero] at a0 a1 a2 a3 a4 b0 b1 b2 b3 b4
        go_upto_region 6 with fail
        go_quiet (fail)
        have hld : Later w (wr.drewN nq) := hlw.trans (below_draw (Below.refl _ _) nq)
        go_wp2_with fail
        go_roundw
        case rel => exact ⟨k + 1, by omega, by go_num, hld⟩
        case measure => simp [intOf]; omega
      · obtain rfl : k = X.length := by omega
        go_wp2_with fail
        go_ret
        exact ⟨by simp, hlw⟩
end Go.Proofs.Ytahphjindjlcpaa

/- Package table: First. -/
namespace Go.Proofs.Ytahphjindjlcpaa
open Go.RowKit Go.Shelf
set_option maxRecDepth 100000
attribute [local go_sem] Oper.semAt_some
set_option linter.unusedVariables false
set_option linter.unusedSimpArgs false

def zRx : Rw := ⟨0, 0, 0, 0, 0, 0, 0, 0⟩
/-- The first of rows, as they are gone through. -/
def fst2 (l : List Rw) : Rw × Bool := l.foldl (fun q r => if q.2 = false ∨ ltR r q.1 = true then (r, true) else q) (zRx, false)
theorem fst2_snoc (l : List Rw) (r : Rw) : fst2 (l ++ [r]) = if (fst2 l).2 = false ∨ ltR r (fst2 l).1 = true then (r, true) else fst2 l := by unfold fst2; rw [List.foldl_append]; rfl
theorem fst2_least (l : List Rw) : (l = [] ∧ fst2 l = (zRx, false)) ∨ ((fst2 l).2 = true ∧ (fst2 l).1 ∈ l ∧ ∀ r ∈ l, ltR r (fst2 l).1 = false) := by
  suffices h : ∀ m : List Rw, (m.reverse = [] ∧ fst2 m.reverse = (zRx, false)) ∨ ((fst2 m.reverse).2 = true ∧ (fst2 m.reverse).1 ∈ m.reverse ∧ ∀ r ∈ m.reverse, ltR r (fst2 m.reverse).1 = false) by simpa using h l.reverse
  intro m
  induction m with
  | nil => exact .inl ⟨rfl, rfl⟩
  | cons x m ih =>
    refine .inr ?_
    rw [List.reverse_cons, fst2_snoc]
    generalize m.reverse = l at *
    have hxx : ltR x x = false := by rw [ltR_false]; omega
    rcases ih with ⟨rfl, e⟩ | ⟨h1, h2, h3⟩
    · rw [e]
      refine ⟨by simp, by simp, fun r hr => ?_⟩
      obtain rfl : r = x := by simpa using hr
      simpa using hxx
    · by_cases hlt : ltR x (fst2 l).1 = true
      · rw [if_pos (.inr hlt)]
        refine ⟨rfl, by simp, fun r hr => ?_⟩
        rcases List.mem_append.1 hr with hr | hr
        · have h4 := h3 r hr
          show ltR r x = false
          rw [ltR_iff] at hlt
          rw [ltR_false] at h4 ⊢
          omega
        · obtain rfl : r = x := by simpa using hr
          exact hxx
      · rw [if_neg (by simp [h1, hlt])]
        refine ⟨h1, List.mem_append_left _ h2, fun r hr => ?_⟩
        rcases List.mem_append.1 hr with hr | hr
        · exact h3 r hr
        · obtain rfl : r = x := by simpa using hr
          simpa using hlt

/-- The first of the rows is the first of them in order. -/
theorem fst2_ordD {m l : List Rw} (hp : m.Perm l) (hd : l.Pairwise (fun x y => x.turn ≠ y.turn)) : (Value.tuple #[.agg (rwk (fst2 m).1).toArray, .bool (fst2 m).2]) = frv (ordD l) := by
  have hpo : m.Perm (ordD l) := hp.trans (ordD_perm l).symm
  have hO := ordD_inO l
  have hdo : (ordD l).Pairwise (fun x y => x.turn ≠ y.turn) := ((ordD_perm l).pairwise_iff (fun {x y} h e => h e.symm)).2 hd
  rcases fst2_least m with ⟨rfl, e⟩ | ⟨h1, h2, h3⟩
  · have : ordD l = [] := hpo.symm.eq_nil
    rw [this, e]
    rfl
  · cases hX : ordD l with
    | nil => rw [hX] at hpo; rw [hpo.eq_nil] at h2; cases h2
    | cons y X =>
      rw [hX] at hpo hO hdo
      have hy : y ∈ m := hpo.mem_iff.2 (by simp)
      have a1 := h3 y hy
      have hf := hpo.mem_iff.1 h2
      have : (fst2 m).1 = y := by
        rcases List.mem_cons.1 hf with e | hf
        · exact e
        · have a2 := (List.pairwise_cons.1 hO).1 _ hf
          have a3 := (List.pairwise_cons.1 hdo).1 _ hf
          rw [ltR_false] at a1 a2
          omega
      rw [this, h1]
      rfl

theorem wp_calm {P : Program} {c : Code} {Q : Exit → Act → World → Prop} {a : Act} {w : World} (h : c.wp P (fun e a w => e = .normal ∧ Q .normal a w) a w) : c.wp P Q a w := wp_mono h (fun e a w h => by obtain ⟨rfl, h⟩ := h; exact h)

/-- What First keeps while it looks. -/
def PX (rb : Nat) (pre : List Rw) (W : World) : Prop := W.heap[rb]? = some (.cells #[.int .u8 0, .int .u32 0, .int .u32 0, .int .u16 0, .int .u16 0] 26 (0, 0)) ∧ W.heap[rb + 1]? = some (.cells (rwc (fst2 pre).1).toArray 65 (0, 0)) ∧ W.heap[rb + 1 + 1]? = some (.cells #[.bool (fst2 pre).2] 4 (0, 0))
theorem PX.ct {rb : Nat} {pre : List Rw} {A B : World} (h : PX rb pre A) (c : CT A B) : PX rb pre B := ⟨c.2 _ _ h.1 rfl, c.2 _ _ h.2.1 rfl, c.2 _ _ h.2.2 rfl⟩

set_option maxRecDepth 100000 in
set_option maxHeartbeats 4000000 in
theorem tfirst_any (base bt : Nat) (lim cnt trn : Int) (ls : Nat → List Rw) (w : World) (hT : TB base w bt lim cnt trn ls) :
    Calls Try.prog 22 #[.pointer (some ⟨bt, 0, none⟩)] w fun e w' => Below w.heap.size w w' ∧ e = .returned (.tuple #[.agg (rwk (fst2 (allR ls)).1).toArray, .bool (fst2 (allR ls)).2]) := by
  obtain ⟨vs, hT⟩ := hT
  refine (callsIn_wide (n := 5)).1 ?_
  refine callsIn_of_wp_marks Try.func22 rfl trivial ?_ rfl
  simp only [Try.ntmps22, List.size_toArray, List.length_cons, List.length_nil, Nat.reduceAdd, Nat.reduceSub, Array.replicate_succ, Array.replicate_zero, List.push_toArray, List.append_toArray, List.nil_append, List.cons_append]
  have hb4 : Later w ((((w.alloc (.cells #[.int .u8 0, .int .u32 0, .int .u32 0, .int .u16 0, .int .u16 0] 26)).alloc (.cells #[.int .u8 0, .int .u32 0, .int .u32 0, .int .u16 0, .int .u16 0, .int .i64 0, .int .i64 0, .int .i64 0] 65)).alloc (.cells #[.bool false] 4)).alloc (.cells #[.pointer (some ⟨bt, 3, none⟩)] 66)) := ((((Below.refl _ _).alloc (Nat.le_refl _) _).alloc (by simp) _).alloc (by simp <;> omega) _).alloc (by simp <;> omega) _
  have c0 : ((((w.alloc (.cells #[.int .u8 0, .int .u32 0, .int .u32 0, .int .u16 0, .int .u16 0] 26)).alloc (.cells #[.int .u8 0, .int .u32 0, .int .u32 0, .int .u16 0, .int .u16 0, .int .i64 0, .int .i64 0, .int .i64 0] 65)).alloc (.cells #[.bool false] 4)).alloc (.cells #[.pointer (some ⟨bt, 3, none⟩)] 66)).heap[w.heap.size]? = some (.cells #[.int .u8 0, .int .u32 0, .int .u32 0, .int .u16 0, .int .u16 0] 26) := (Below.heap_alloc _ _ _ (by simp <;> omega)).trans ((Below.heap_alloc _ _ _ (by simp <;> omega)).trans ((Below.heap_alloc _ _ _ (by simp)).trans (heap_alloc_new w _)))
  have c1 : ((((w.alloc (.cells #[.int .u8 0, .int .u32 0, .int .u32 0, .int .u16 0, .int .u16 0] 26)).alloc (.cells #[.int .u8 0, .int .u32 0, .int .u32 0, .int .u16 0, .int .u16 0, .int .i64 0, .int .i64 0, .int .i64 0] 65)).alloc (.cells #[.bool false] 4)).alloc (.cells #[.pointer (some ⟨bt, 3, none⟩)] 66)).heap[w.heap.size + 1]? = some (.cells #[.int .u8 0, .int .u32 0, .int .u32 0, .int .u16 0, .int .u16 0, .int .i64 0, .int .i64 0, .int .i64 0] 65) := by
    have := heap_alloc_new (w.alloc (.cells #[.int .u8 0, .int .u32 0, .int .u32 0, .int .u16 0, .int .u16 0] 26)) (.cells #[.int .u8 0, .int .u32 0, .int .u32 0, .int .u16 0, .int .u16 0, .int .i64 0, .int .i64 0, .int .i64 0] 65)
    rw [World.size_alloc] at this
    exact (Below.heap_alloc _ _ _ (by simp)).trans ((Below.heap_alloc _ _ _ (by simp)).trans this)
  have c2 : ((((w.alloc (.cells #[.int .u8 0, .int .u32 0, .int .u32 0, .int .u16 0, .int .u16 0] 26)).alloc (.cells #[.int .u8 0, .int .u32 0, .int .u32 0, .int .u16 0, .int .u16 0, .int .i64 0, .int .i64 0, .int .i64 0] 65)).alloc (.cells #[.bool false] 4)).alloc (.cells #[.pointer (some ⟨bt, 3, none⟩)] 66)).heap[w.heap.size + 1 + 1]? = some (.cells #[.bool false] 4) := by
    have := heap_alloc_new ((w.alloc (.cells #[.int .u8 0, .int .u32 0, .int .u32 0, .int .u16 0, .int .u16 0] 26)).alloc (.cells #[.int .u8 0, .int .u32 0, .int .u32 0, .int .u16 0, .int .u16 0, .int .i64 0, .int .i64 0, .int .i64 0] 65)) (.cells #[.bool false] 4)
    simp only [World.size_alloc] at this
    exact (Below.heap_alloc _ _ _ (by simp)).trans this
  have c3 : ((((w.alloc (.cells #[.int .u8 0, .int .u32 0, .int .u32 0, .int .u16 0, .int .u16 0] 26)).alloc (.cells #[.int .u8 0, .int .u32 0, .int .u32 0, .int .u16 0, .int .u16 0, .int .i64 0, .int .i64 0, .int .i64 0] 65)).alloc (.cells #[.bool false] 4)).alloc (.cells #[.pointer (some ⟨bt, 3, none⟩)] 66)).heap[w.heap.size + 1 + 1 + 1]? = some (.cells #[.pointer (some ⟨bt, 3, none⟩)] 66) := by
    have := heap_alloc_new (((w.alloc (.cells #[.int .u8 0, .int .u32 0, .int .u32 0, .int .u16 0, .int .u16 0] 26)).alloc (.cells #[.int .u8 0, .int .u32 0, .int .u32 0, .int .u16 0, .int .u16 0, .int .i64 0, .int .i64 0, .int .i64 0] 65)).alloc (.cells #[.bool false] 4)) (.cells #[.pointer (some ⟨bt, 3, none⟩)] 66)
    simpa only [World.size_alloc] using this
  have hs4 : ((((w.alloc (.cells #[.int .u8 0, .int .u32 0, .int .u32 0, .int .u16 0, .int .u16 0] 26)).alloc (.cells #[.int .u8 0, .int .u32 0, .int .u32 0, .int .u16 0, .int .u16 0, .int .i64 0, .int .i64 0, .int .i64 0] 65)).alloc (.cells #[.bool false] 4)).alloc (.cells #[.pointer (some ⟨bt, 3, none⟩)] 66)).heap.size = w.heap.size + 1 + 1 + 1 + 1 := by simp
  have C0 := hide c0
  have C1 := hide c1
  have C2 := hide c2
  have C3 := hide c3
  have HS4 := hide hs4
  clear c0 c1 c2 c3 hs4
  gi_wp2_with (refine ⟨trivial, ?_⟩; gi_at_call 39; refine (all_in _ _ _).mono ?_; rintro e w' ⟨rfl, rfl⟩)
  generalize ((((w.alloc (.cells #[.int .u8 0, .int .u32 0, .int .u32 0, .int .u16 0, .int .u16 0] 26)).alloc (.cells #[.int .u8 0, .int .u32 0, .int .u32 0, .int .u16 0, .int .u16 0, .int .i64 0, .int .i64 0, .int .i64 0] 65)).alloc (.cells #[.bool false] 4)).alloc (.cells #[.pointer (some ⟨bt, 3, none⟩)] 66)) = w4 at *
  have hs4 : w4.heap.size = w.heap.size + 1 + 1 + 1 + 1 := HS4.out
  refine wpIn_rangeX (w := w4) rfl (by omega) (gf := 51) (lb := #[.pointer (some ⟨w.heap.size + 1 + 1 + 1, 0, none⟩)]) rfl trivial (enters_of Try.func51 (by kernel_rfl) rfl)
    (all_gen 4 (by omega) (w.heap.size + 1 + 1 + 1) bt w.heap.size base lim cnt trn vs ls w w4 hT rfl hb4 (by omega) (block_cell C3.out 0))
    (fun h k => h.trans k) (fun W l o o' hl ho hc hw => belowK_b (w := w4) (by omega) W l o o' hl ho hc hw) (fun hA hL => hL.mono (by omega)) (fun _ _ _ _ h _ => h) (fun _ _ _ _ _ _ _ _ _ h => h) (fun _ => rfl)
    (fun pre W => PX w.heap.size pre W ∧ Below w.heap.size w W) (fun pre W => False)
    (OwnFrom.and (fun s A B row hs hg hr => hs.ct (CT.row hg (fun r e => (hr r e).2))) (ownFrom_below (Nat.le_refl _) (by omega)))
    (fun s A B h l => ⟨h.1.ct (CT.of l), h.2.trans (l.mono h.2.size)⟩)
    (fun s A B row hs hg hr => hs)
    ⟨⟨C0.out, C1.out, C2.out⟩, hb4⟩
    (fun x a' W => ∃ bx : Nat, w.heap.size + 1 + 1 + 1 + 1 ≤ bx ∧ W.heap[bx]? = some (.cells #[.int .u8 x.p, .int .u32 x.s, .int .u32 x.d, .int .u16 x.a, .int .u16 x.b, .int .i64 x.id, .int .i64 x.till, .int .i64 x.turn] 65 (0, 0)) ∧ a' = { tmps := #[.pointer (some ⟨bt, 0, none⟩), undef, .pointer (some ⟨w.heap.size, 0, none⟩), .bool false, .pointer (some ⟨w.heap.size + 1, 0, none⟩), .pointer (some ⟨w.heap.size + 1 + 1, 0, none⟩), .pointer (some ⟨bx, 0, none⟩), .pointer (some ⟨bt, 0, none⟩), .bool false, undef, .pointer (some ⟨bt, 0, none⟩), .pointer (some ⟨bt, 0, none⟩), .pointer (some ⟨bt, 3, none⟩), .func (.func 51) #[] #[.pointer (some ⟨w.heap.size + 1 + 1 + 1, 0, none⟩)], .agg #[.int .u8 x.p, .int .u32 x.s, .int .u32 x.d, .int .u16 x.a, .int .u16 x.b, .int .i64 x.id, .int .i64 x.till, .int .i64 x.turn], undef, undef, undef, undef, undef, undef, undef, undef, undef, undef, undef, undef], defers := [] })
    (fun x a' W l o o' hl ho hc h => by obtain ⟨bx, h1, h2, h3⟩ := h; exact ⟨bx, h1, (CT.put ho hc).2 _ _ h2 rfl, h3⟩) ?assign ?body ?done ?stop
  case assign =>
    rintro l pre x W K hsz _ hX hK
    dsimp only [encR, rwc]
    gi_wp2
    refine hK _ _ ?_ ⟨W.heap.size, by omega, heap_alloc_new _ _, rfl⟩
    exact (Below.refl _ W).alloc (Nat.le_refl _) _
  case body =>
    rintro l pre x a' W ⟨⟨h0, h1, h2⟩, hbW⟩ hX ⟨bx, hbx, hbo, rfl⟩
    have hsn := fst2_snoc pre x
    have hstore : ∀ W1, W1.heap[w.heap.size]? = some (.cells #[.int .u8 0, .int .u32 0, .int .u32 0, .int .u16 0, .int .u16 0] 26 (0, 0)) → W1.heap[w.heap.size + 1]? = some (.cells (rwc (fst2 pre).1).toArray 65 (0, 0)) → W1.heap[w.heap.size + 1 + 1]? = some (.cells #[.bool (fst2 pre).2] 4 (0, 0)) → Later W W1 → fst2 (pre ++ [x]) = (x, true) →
        postX w4.heap.size (Below w.heap.size) (fun pre W => PX w.heap.size pre W ∧ Below w.heap.size w W) (fun pre W => False) (pre ++ [x]) W Exit.normal { tmps := #[], defers := [] } ((putRow W1 (w.heap.size + 1) 0 (rwc x)).setCell ⟨w.heap.size + 1 + 1, 0, none⟩ (.bool true)) := by
      intro W1 g0 g1 g2 l1 hf
      have hbW1 := hbW.trans (l1.mono hbW.size)
      obtain ⟨V, hV2⟩ : ∃ V, V = putRow W1 (w.heap.size + 1) 0 (rwc x) := ⟨_, rfl⟩
      rw [← hV2]
      have v1 : V.heap[w.heap.size + 1]? = some (.cells (rwc x).toArray 65 (0, 0)) := by rw [hV2]; exact putRow_all (rwc x) g1 rfl
      have hbV : But (fun g => g = w.heap.size + 1 ∨ g = w.heap.size + 1 + 1) W1 V := by rw [hV2]; exact putRow_but (E := fun g => g = w.heap.size + 1 ∨ g = w.heap.size + 1 + 1) (n := w.heap.size + 1) (.inl rfl) (rwc x) 0 W1 W1 (But.refl _ _)
      have hbS := hbV.setCell (p := ⟨w.heap.size + 1 + 1, 0, none⟩) (.inr rfl) (.bool true)
      have hsz1 : w.heap.size ≤ W1.heap.size := hbW1.size
      have hbl := hbS.below hsz1 (fun k hk e => by rcases e with rfl | rfl <;> omega)
      refine ⟨⟨Nat.le_trans l1.size hbS.size, fun i o hi ho hc => ?_⟩, (l1.mono hbW.size).trans hbl, ⟨?_, ?_, ?_⟩, hbW1.trans hbl⟩
      · have := later_keep l1 ho
        exact (hbS.block i (Array.getElem?_eq_some_iff.1 this).1 (fun e => by rcases e with rfl | rfl <;> omega)).trans this
      · exact (hbS.block _ (Array.getElem?_eq_some_iff.1 g0).1 (fun e => by rcases e with e | e <;> omega)).trans g0
      · rw [hf]
        exact (Below.heap_setCell V ⟨w.heap.size + 1 + 1, 0, none⟩ _ (w.heap.size + 1) (by simp)).trans v1
      · rw [hf]
        have v2 : V.heap[w.heap.size + 1 + 1]? = some (.cells #[.bool (fst2 pre).2] 4 (0, 0)) := by
          rw [hV2]
          exact ((putRow_rb (rb := w.heap.size + 1) (rwc x) W1).block (w.heap.size + 1 + 1) (Array.getElem?_eq_some_iff.1 g2).1 (by omega)).trans g2
        exact heap_set1 v2 0 _
    have HST := hide hstore
    have HSN := hide hsn
    clear hstore hsn
    generalize fst2 pre = q at *
    obtain ⟨f, b⟩ := q
    simp only at h1 h2
    have HIN := hide (((callsIn_wide (n := 2)).2 (inOrder_any x f W)).inRound l)
    have Kb := block_cell hbo
    have K1 := block_cell h1
    have K2 := block_cell h2
    have F1 := block_frozen h1
    have F2 := block_frozen h2
    simp only [rwc] at K1
    cases b with
    | false =>
      have hf : fst2 (pre ++ [x]) = (x, true) := by rw [HSN.out, if_pos (.inl rfl)]
      have HF := hide hf
      clear hf
      gi_wp2
      refine ⟨trivial, ?_⟩
      gi_wp2
      exact HST.out W h0 h1 h2 (Later.refl _) HF.out
    | true =>
      gi_wp2
      refine ⟨trivial, ?_⟩
      refine HIN.out.mono ?_
      rintro e W1 ⟨rfl, hl1⟩
      have l1 : Later W W1 := hl1
      have g0 := later_keep l1 h0
      have g1 := later_keep l1 h1
      have g2 := later_keep l1 h2
      have gb := later_keep l1 hbo
      clear Kb K1 K2 F1 F2
      have Kb := block_cell gb
      have K1 := block_cell g1
      have K2 := block_cell g2
      have F1 := block_frozen g1
      have F2 := block_frozen g2
      simp only [rwc] at K1
      by_cases hlt : ordv x f < 0
      · have hf : fst2 (pre ++ [x]) = (x, true) := by rw [HSN.out, if_pos (.inr (by unfold ltR; simpa using hlt))]
        have HF := hide hf
        clear hf
        gi_wp2
        exact HST.out W1 g0 g1 g2 l1 HF.out
      · have hf : fst2 (pre ++ [x]) = (f, true) := by rw [HSN.out, if_neg (by unfold ltR; simpa using hlt)]
        have HF := hide hf
        clear hf
        gi_wp2
        exact ⟨⟨l1.size, fun i o hi ho hc => later_keep l1 ho⟩, l1.mono hbW.size, ⟨g0, by rw [HF.out]; exact g1, by rw [HF.out]; exact g2⟩, hbW.trans (l1.mono hbW.size)⟩
  case done =>
    rintro D xs W hD rfl ⟨⟨h0, h1, h2⟩, hbW⟩ hK
    generalize hq : fst2 (allR ls) = q at *
    have HQ := hide hq
    clear hq
    obtain ⟨f, b⟩ := q
    simp only at h1 h2
    gi_wp2
    refine wpIn_wide.2 (wp_calm ?_)
    refine anyT_begin (R := But (fun g => g = w.heap.size)) 5 rfl (by kernel_rfl) ?_
    have ld : Later W W.drew := Later.drew W
    have g0 := later_keep ld h0
    have g1 := later_keep ld h1
    have g2 := later_keep ld h2
    have gD := later_keep ld hK
    have hbd := hbW.trans (ld.mono hbW.size)
    clear h0 h1 h2 hK
    generalize W.drew = Wd at *
    have q1 : ∀ v1, But (fun g => g = w.heap.size) Wd v1 → ∀ j, v1.cell? ⟨w.heap.size + 1, j, none⟩ = (rwc f).toArray[j]? := fun v1 hv => block_cell ((hv.block _ (Array.getElem?_eq_some_iff.1 g1).1 (by omega)).trans g1)
    have q2 : ∀ v1, But (fun g => g = w.heap.size) Wd v1 → ∀ j, v1.cell? ⟨w.heap.size + 1 + 1, j, none⟩ = #[Value.bool b][j]? := fun v1 hv => block_cell ((hv.block _ (Array.getElem?_eq_some_iff.1 g2).1 (by omega)).trans g2)
    simp only [rwc] at q1
    refine anyT_val (But.pre _) 0 rfl (by kernel_rfl) (by kernel_rfl) (by kernel_rfl) (fun _ _ _ _ h => by cases h.1) rfl ?_; apply Exists.intro; refine ⟨fun v1 hv1 => ?_, ?_⟩; (· (go_simp; rfl)); simp only [Act.put, List.setIfInBounds_toArray, List.set_cons_zero, List.set_cons_succ]
    refine anyT_val (But.pre _) 1 rfl (by kernel_rfl) (by kernel_rfl) (by kernel_rfl) (fun _ _ _ _ h => by cases h.1) rfl ?_; apply Exists.intro; refine ⟨fun v1 hv1 => ?_, ?_⟩; (· (go_simp; rfl)); simp only [Act.put, List.setIfInBounds_toArray, List.set_cons_zero, List.set_cons_succ]
    refine anyT_val (But.pre _) 2 rfl (by kernel_rfl) (by kernel_rfl) (by kernel_rfl) (fun _ _ _ _ h => by cases h.1) rfl ?_; apply Exists.intro; refine ⟨fun v1 hv1 => ?_, ?_⟩; (· (go_simp; rfl)); simp only [Act.put, List.setIfInBounds_toArray, List.set_cons_zero, List.set_cons_succ]
    clear q1 q2
    refine anyT_one 3 rfl (by kernel_rfl) rfl ?_
    have K0 := block_cell g0
    have F0 := block_frozen g0
    unfold Oper.wp
    go_simp
    generalize hV : World.setCell _ _ _ = V
    replace hV : putRow Wd w.heap.size 0 (rwk f) = V := hV
    have v1 := putRow_all (rwk f) g0 rfl
    have hbV := putRow_rb (rb := w.heap.size) (rwk f) Wd
    rw [hV] at v1 hbV
    refine ⟨hbV, ?_⟩
    have hDV := (hbV.block D (Array.getElem?_eq_some_iff.1 gD).1 (by omega)).trans gD
    have hbf := hbd.trans (hbV.below hbd.size (fun k hk e => by omega))
    clear hV K0 F0
    refine anyT_val (But.pre _) 4 rfl (by kernel_rfl) (by kernel_rfl) (by kernel_rfl) (fun _ _ _ _ h => by cases h.1) rfl ?_; apply Exists.intro; refine ⟨fun v1 hv1 => ?_, ?_⟩; (· (go_simp; rfl)); simp only [Act.put, List.setIfInBounds_toArray, List.set_cons_zero, List.set_cons_succ]
    refine anyT_done (by kernel_rfl) ⟨rfl, ?_⟩
    gi_wp2
    refine ⟨by simp, .inl ⟨_, _, rfl, run_takeDeferred hDV, ?_⟩⟩
    have z1 := (CT.put (o' := .deferred none) hDV rfl).2 _ _ v1 rfl
    have k1 := block_cell z1
    simp only [rwk] at k1
    rw [HQ.out]
    exact ⟨.tuple #[.agg (rwk f).toArray, .bool b], by simp [results, Try.results22, go_sem, k1, rwk], hbf.trans (belowK_b (w := w) (Nat.le_refl _) V D _ _ (by omega) hDV rfl rfl), rfl⟩
  case stop =>
    rintro D pre W hD hSp hF hK
    exact hF.elim
end Go.Proofs.Ytahphjindjlcpaa

/- The law's same; the walk of TablePlays. -/
namespace Go.Proofs.Ytahphjindjlcpaa
open Go.RowKit Go.Shelf
set_option maxRecDepth 100000
set_option linter.unusedVariables false
set_option linter.unusedSimpArgs false

theorem rgv_form (p s d a b : Int) (l : List Rw) : ∃ x y c, rgv p s d a b l = .tuple #[.int .i64 x, .int .i64 y, .bool c] := by
  unfold rgv
  cases hk : kix p s d (kyp p a) b l with
  | none => exact ⟨_, _, _, rfl⟩
  | some k =>
    obtain ⟨hkl, _⟩ := kix_at hk
    simp only [List.getElem?_eq_getElem hkl]
    exact ⟨_, _, _, rfl⟩

set_option maxHeartbeats 8000000 in
theorem same6_gen (base bt bd : Nat) (lim lim2 trn trn2 : Int) (ls : Nat → List Rw) (v : Value) (l : List Rw) (p s d a b now : Int) (w : World) (hT : TB base w bt lim (l.length : Nat) trn ls) (hD : DT base w bd v lim2 trn2 l) (hR : Rel ls l) (hl8 : l.length ≤ 8) (hwt : l.Pairwise (fun x y => x.turn ≠ y.turn)) (hg : Rg5 p s d a b) :
    Calls Try.prog 9 #[.pointer (some ⟨bt, 0, none⟩), .pointer (some ⟨bd, 0, none⟩), .agg #[.int .u8 p, .int .u32 s, .int .u32 d, .int .u16 a, .int .u16 b], .int .i64 now] w fun e w' => e = .returned (.bool true) ∧ Later w w' := by
  have hpm := hR.perm
  have hal : (allR ls).length = l.length := hpm.length_eq
  have hdt : (allR ls).Pairwise (fun x y => x.turn ≠ y.turn) := (hpm.pairwise_iff (fun {x y} h e => h e.symm)).2 hwt
  have hso : isort (allR ls) = ordD l := ordD_isort hpm hwt
  have HGET := hide (fun W (hW : Later w W) => get_any base bt lim l.length trn ls p s d a b W (TB.later hT hW) hg.1 hg.2.1 hg.2.2.1 hg.2.2.2)
  have HRGET := hide (fun W (hW : Later w W) => rget6_any base bd v lim2 trn2 l p s d a b W (hD.later hW))
  have HFST := hide (fun W (hW : Later w W) => tfirst_any base bt lim l.length trn ls W (TB.later hT hW))
  have HRFST := hide (fun W (hW : Later w W) => rfirst6_any base bd v lim2 trn2 l W (hD.later hW) (by omega))
  have HLEN := hide (fun W (hW : Later w W) => len_any base bt lim l.length trn ls W (TB.later hT hW))
  have HRLEN := hide (fun W (hW : Later w W) => rlen6_any base bd v lim2 trn2 l W (hD.later hW))
  have HDUE := hide (fun W (hW : Later w W) => by
    have h := due_any base bt lim l.length trn now ls _ W (TB.later hT hW) (sorts_few (duR now (allR ls)) (by have := duR_length now (allR ls); omega)) (by omega)
    rw [isort_due hdt now, hso] at h
    exact h)
  have HRDUE := hide (fun W (hW : Later w W) => rdue6_any base bd v lim2 trn2 now l W (hD.later hW) (by omega))
  have hXl : (duR now (ordD l)).length ≤ 2000 := by have := duR_length now (ordD l); rw [ordD_length] at this; omega
  have HEQ := hide (rel_rgv hR p s d a b)
  have HFQ := hide (fst2_ordD hpm hwt)
  obtain ⟨x, y, c, hv⟩ := rgv_form p s d a b l
  have HV := hide hv
  clear hT hD hR hwt hpm hal hdt hso hv
  have lb0 : Later w (w.alloc (.cells #[.int .u8 p, .int .u32 s, .int .u32 d, .int .u16 a, .int .u16 b] 26)) := (Below.refl _ _).alloc (Nat.le_refl _) _
  have c0 := heap_alloc_new w (.cells #[.int .u8 p, .int .u32 s, .int .u32 d, .int .u16 a, .int .u16 b] 26)
  have k0 := block_cell c0
  go_enter Try.func9, Try.ntmps9
  go_wp2_with fail
  generalize w.alloc _ = w0 at *
  refine (HGET.out w0 lb0).mono ?_
  rintro e w1 ⟨l1, rfl⟩
  rw [HEQ.out, HV.out]
  have L1 : Later w w1 := lb0.trans l1
  have c1 := later_keep l1 c0
  clear k0 c0 l1 lb0
  have k1 := block_cell c1
  go_wp2_with fail
  refine (HRGET.out w1 L1).mono ?_
  rintro e w2 ⟨rfl, l2⟩
  rw [HV.out]
  have L2 := L1.trans l2
  clear k1 c1 l2 L1
  go_wp2_with fail
  refine (HFST.out w2 L2).mono ?_
  rintro e w3 ⟨l3, rfl⟩
  have L3 : Later w w3 := L2.trans l3
  clear l3 L2
  generalize fst2 (allR ls) = q at *
  obtain ⟨f, fb⟩ := q
  simp only [rwk] at HFQ ⊢
  have la3 : Later w3 (w3.alloc (.cells #[.int .u8 f.p, .int .u32 f.s, .int .u32 f.d, .int .u16 f.a, .int .u16 f.b] 26)) := (Below.refl _ _).alloc (Nat.le_refl _) _
  have c3 := heap_alloc_new w3 (.cells #[.int .u8 f.p, .int .u32 f.s, .int .u32 f.d, .int .u16 f.a, .int .u16 f.b] 26)
  go_wp2_with fail
  generalize w3.alloc _ = w4 at *
  have L4 := L3.trans la3
  refine (HRFST.out w4 L4).mono ?_
  rintro e w5 ⟨rfl, l5⟩
  rw [← HFQ.out]
  have L5 := L4.trans l5
  have c5 := later_keep l5 c3
  have la5 : Later w5 (w5.alloc (.cells #[.int .u8 f.p, .int .u32 f.s, .int .u32 f.d, .int .u16 f.a, .int .u16 f.b] 26)) := (Below.refl _ _).alloc (Nat.le_refl _) _
  have c6 := heap_alloc_new w5 (.cells #[.int .u8 f.p, .int .u32 f.s, .int .u32 f.d, .int .u16 f.a, .int .u16 f.b] 26)
  have c7 := later_keep la5 c5
  have L6 := L5.trans la5
  clear la3 c3 l5 L4 L3 c5 la5 L5
  have k6 := block_cell c6
  have k7 := block_cell c7
  go_wp2_with fail
  generalize w5.alloc _ = w6 at *
  refine (HLEN.out w6 L6).mono ?_
  rintro e w7 ⟨rfl, l7⟩
  have L7 : Later w w7 := L6.trans l7
  clear k6 k7 c6 c7 l7 L6
  go_wp2_with fail
  refine (HRLEN.out w7 L7).mono ?_
  rintro e w8 ⟨rfl, l8⟩
  have L8 : Later w w8 := L7.trans l8
  clear l8 L7
  go_wp2_with fail
  refine (HDUE.out w8 L8).mono ?_
  rintro e w9 ⟨l9, g9, rfl, _, h9⟩
  have L9 : Later w w9 := L8.trans l9
  clear l9 L8
  go_wp2_with fail
  refine (HRDUE.out w9 L9).mono ?_
  rintro e w10 ⟨l10, u, rfl, h10⟩
  have L10 : Later w w10 := L9.trans l10
  have h9' := later_keep l10 h9
  clear l10 L9
  have HK := hide (fun W (hW : W = w10) => sameKeys_eq g9 w9.heap.size u (duR now (ordD l)) w10 h9' h10 hXl)
  obtain ⟨su, cu, rfl⟩ := ownX_slice h10
  clear h9 h9' h10
  go_wp2_with fail
  refine (HK.out w10 rfl).mono ?_
  rintro e w11 ⟨rfl, l11⟩
  have L11 : Later w w11 := L10.trans l11
  go_wp2_with fail
  go_ret
  exact ⟨by simp, L11⟩

theorem same6_any (base bt bd : Nat) (lim : Int) (n : Nat) (p s d a b now : Int) (w : World) (h : PT base w bt bd lim n) (hlm : lim ≤ 8) (hg : Rg5 p s d a b) :
    Calls Try.prog 9 #[.pointer (some ⟨bt, 0, none⟩), .pointer (some ⟨bd, 0, none⟩), .agg #[.int .u8 p, .int .u32 s, .int .u32 d, .int .u16 a, .int .u16 b], .int .i64 now] w fun e w' => e = .returned (.bool true) ∧ Later w w' := by
  obtain ⟨ls, v, l, trn, hT, hD, hR, hl1, hl2, ht0, ht1, hwf, hwt, hwk⟩ := h
  exact same6_gen base bt bd lim lim trn trn ls v l p s d a b now w hT hD hR (by have := hwf.1; omega) hwt.2 hg

set_option maxHeartbeats 4000000 in
theorem plays_walk (w : World) (m : Int) (hm : 0 ≤ m ∧ m ≤ 255) (sv : Value) (ds : List De) (hI : RdE w.heap.size w sv ds) (hd : ∀ d ∈ ds, wfE d) (x : De) (hx : wfE x) :
    Calls Try.prog 3 #[.int .u8 m, sv, .agg (dec x).toArray] w fun e w' => e = .returned (.bool true) ∧ Below w.heap.size w w' := by
  obtain ⟨aa, ca, rfl, ha1, ha2⟩ := hI.slice
  have lb0 : Later w (w.alloc (.cells (dec x).toArray 28)) := (Below.refl _ _).alloc (Nat.le_refl _) _
  have c0 := heap_alloc_new w (.cells (dec x).toArray 28)
  simp only [dec] at lb0 c0 ⊢
  go_enter Try.func3, Try.ntmps3
  go_upto_region 1 with fail
  generalize w.alloc _ = w0 at *
  go_wp2_with fail
  refine (play6_any w.heap.size m _ ds w0 hm (hI.below lb0) hd lb0.size).mono ?_
  rintro e w1 ⟨l1, bt, bd, rfl, hP⟩
  have L1 := lb0.trans l1
  have c1 := later_keep l1 c0
  clear c0 l1 lb0
  go_wp2_with fail
  refine (live6_any w1).mono ?_
  rintro e w2 ⟨rfl, l2⟩
  have L2 := L1.trans l2
  have c2 := later_keep l2 c1
  have hP2 := hP.later l2
  clear c1 l2 L1 hP
  have k2 := block_cell c2
  have HS := hide (same6_any w0.heap.size bt bd (m % 8 + 1) 100 x.p x.s x.d x.a x.b x.till w2 hP2 (by omega) ⟨hx.2.1, hx.2.2.1, hx.2.2.2.1, hx.2.2.2.2.1⟩)
  go_wp2_with fail
  refine HS.out.mono ?_
  rintro e w3 ⟨rfl, l3⟩
  have L3 := L2.trans l3
  go_wp2_with fail
  go_ret
  exact ⟨by simp, L3⟩

theorem walk_TablePlays (w : World) (m : Int) (hm : 0 ≤ m ∧ m ≤ 255) (sv : Value) (ds : List De) (hI : RdE w.heap.size w sv ds) (hd : ∀ d ∈ ds, wfE d) (kd p s d a b id till : Int) (hk : -9223372036854775808 ≤ kd ∧ kd ≤ 9223372036854775807) (hp : 0 ≤ p ∧ p ≤ 255) (hs : 0 ≤ s ∧ s ≤ 4294967295) (hdd : 0 ≤ d ∧ d ≤ 4294967295) (ha : 0 ≤ a ∧ a ≤ 65535) (hb : 0 ≤ b ∧ b ≤ 65535) (hi : -9223372036854775808 ≤ id ∧ id ≤ 9223372036854775807) (ht : -9223372036854775808 ≤ till ∧ till ≤ 9223372036854775807) :
    Calls Try.prog 3 #[.int .u8 m, sv, .agg #[.int .i64 kd, .int .u8 p, .int .u32 s, .int .u32 d, .int .u16 a, .int .u16 b, .int .i64 id, .int .i64 till]] w fun e w' => e = .returned (.bool true) ∧ Below w.heap.size w w' :=
  plays_walk w m hm sv ds hI hd ⟨kd, p, s, d, a, b, id, till⟩ ⟨hp, hs, hdd, ha, hb, hk, hi, ht⟩
end Go.Proofs.Ytahphjindjlcpaa

/- The walk of TableBack. -/
namespace Go.Proofs.Ytahphjindjlcpaa
open Go.RowKit Go.Shelf
set_option maxRecDepth 100000
set_option linter.unusedVariables false
set_option linter.unusedSimpArgs false

theorem kx_addL {ls : Nat → List Rw} {p s d a b : Int} {r : Rw} (hn : kx p s d a b ls = none) (hr : isK p s d (kyp p a) b r = true) : kx p s d a b (addL ls (bki p s d a b) r) = some (ls (bki p s d a b)).length := by
  unfold kx at hn ⊢
  rw [kix_none_iff] at hn
  have e : addL ls (bki p s d a b) r (bki p s d a b) = ls (bki p s d a b) ++ [r] := by unfold addL; simp
  rw [e]
  refine kix_some (by simp) (fun j hj hjl => ?_) (by simpa using hr)
  rw [List.getElem_append_left hjl]
  exact hn _ (List.getElem_mem _)
theorem modify_last (f : Rw → Rw) : ∀ (L : List Rw) (r : Rw), (L ++ [r]).modify L.length f = L ++ [f r]
  | [], r => rfl
  | x :: L, r => by
    show List.modify (x :: (L ++ [r])) (L.length + 1) f = x :: (L ++ [f r])
    rw [List.modify_succ_cons, modify_last f L r]
theorem mvL_addL (ls : Nat → List Rw) (i : Nat) (r : Rw) (x y : Int) : mvL (addL ls i r) i (ls i).length x y = addL ls i { r with till := x, turn := y } := by
  funext j
  unfold mvL addL
  by_cases h : j = i
  · subst h
    simp only [if_true]
    rw [modify_last]
  · simp [h]
theorem dpL_addL (ls : Nat → List Rw) (i : Nat) (r : Rw) : dpL (addL ls i r) i (ls i).length = ls := by
  funext j
  unfold dpL addL
  by_cases h : j = i
  · subst h
    simp only [if_true]
    rw [List.eraseIdx_append_of_length_le (by simp)]
    simp
  · simp [h]
theorem addL_at (ls : Nat → List Rw) (i : Nat) (r : Rw) : (addL ls i r i)[(ls i).length]? = some r := by
  unfold addL
  rw [if_pos rfl, List.getElem?_append_right (Nat.le_refl _), Nat.sub_self]
  rfl
theorem gtv_at {ls : Nat → List Rw} {p s d a b : Int} {k : Nat} {r : Rw} (hk : kx p s d a b ls = some k) (hr : (ls (bki p s d a b))[k]? = some r) : gtv p s d a b ls = .tuple #[.int .i64 r.id, .int .i64 r.till, .bool true] := by
  unfold gtv
  simp only [hk, hr]
theorem gtv_addL {ls : Nat → List Rw} {p s d a b : Int} {r : Rw} (hn : kx p s d a b ls = none) (hr : isK p s d (kyp p a) b r = true) : gtv p s d a b (addL ls (bki p s d a b) r) = .tuple #[.int .i64 r.id, .int .i64 r.till, .bool true] := gtv_at (kx_addL hn hr) (addL_at ls (bki p s d a b) r)
theorem gtv_none {ls : Nat → List Rw} {p s d a b : Int} (hn : kx p s d a b ls = none) : gtv p s d a b ls = .tuple #[.int .i64 0, .int .i64 0, .bool false] := by unfold gtv; rw [hn]
theorem gtv_some {ls : Nat → List Rw} {p s d a b : Int} (hn : kx p s d a b ls ≠ none) : ∃ x y, gtv p s d a b ls = .tuple #[.int .i64 x, .int .i64 y, .bool true] := by
  unfold gtv
  cases h : kx p s d a b ls with
  | none => exact absurd h hn
  | some k =>
    obtain ⟨hk, _⟩ := kix_at h
    simp only [List.getElem?_eq_getElem hk]
    exact ⟨_, _, rfl⟩

/-- Put, Move and Drop of a tuple that is not there leave the rows as they were. -/
theorem back_put (base bt bd : Nat) (lim lim2 trn trn2 : Int) (ls : Nat → List Rw) (v : Value) (l : List Rw) (p s d a b id : Int) (w : World) (hT : TB base w bt lim (l.length : Nat) trn ls) (hD : DT base w bd v lim2 trn2 l) (hR : Rel ls l) (hlm : lim ≤ 8) (hll : (l.length : Int) < lim) (ht0 : 0 ≤ trn ∧ trn ≤ 1000) (hn : kx p s d a b ls = none) (hg : Rg5 p s d a b) (hbs : base ≤ w.heap.size) (hlen : ∀ i, (ls i).length ≤ 1000) :
    Calls Try.prog 14 #[.pointer (some ⟨bt, 0, none⟩), .agg #[.int .u8 p, .int .u32 s, .int .u32 d, .int .u16 a, .int .u16 b], .int .i64 id, .int .i64 3] w fun e w1 => e = .returned (.int .i64 0) ∧ KT w w1 ∧ Below base w w1 ∧ DT base w1 bd v lim2 trn2 l ∧ TB base w1 bt lim ((l.length : Nat) + 1) (trn + 1) (addL ls (bki p s d a b) ⟨p, s, d, kyp p a, b, id, 3, trn + 1⟩) := by
  obtain ⟨vs, hT⟩ := hT
  have hpe : pute lim l.length ls p s d a b 3 = 0 := by
    unfold pute
    rw [if_neg (by simp [mayb]), if_neg (by simp [hn]), if_neg (by omega)]
  refine (put_any base bt lim l.length trn vs ls p s d a b id 3 w hT hg.1 hg.2.1 hg.2.2.1 hg.2.2.2 hbs (by omega) (by omega) (by omega) (by have := hlen (bki p s d a b); omega)).mono ?_
  rintro e w1 ⟨rfl, h1⟩
  rw [hpe] at h1 ⊢
  rcases h1 with ⟨h0, _⟩ | ⟨_, hT1, hb1⟩
  · exact absurd rfl h0
  · have hk1 : KT w w1 := KT.of_but hb1 (hT.typed _ (bki_lt p s d a b))
    exact ⟨rfl, hk1, hT.below_but _ (bki_lt p s d a b) hbs hb1, hD.kt hk1, hT1⟩

theorem back_move (base bt bd : Nat) (lim lim2 cnt trn trn2 : Int) (ls : Nat → List Rw) (v : Value) (l : List Rw) (r : Rw) (p s d a b : Int) (w : World) (hT : TB base w bt lim cnt trn (addL ls (bki p s d a b) r)) (hD : DT base w bd v lim2 trn2 l) (hn : kx p s d a b ls = none) (hr : isK p s d (kyp p a) b r = true) (ht0 : 0 ≤ trn ∧ trn ≤ 1000) (hg : Rg5 p s d a b) (hbs : base ≤ w.heap.size) :
    Calls Try.prog 16 #[.pointer (some ⟨bt, 0, none⟩), .agg #[.int .u8 p, .int .u32 s, .int .u32 d, .int .u16 a, .int .u16 b], .int .i64 5] w fun e w1 => e = .returned (.int .i64 0) ∧ KT w w1 ∧ Below base w w1 ∧ DT base w1 bd v lim2 trn2 l ∧ TB base w1 bt lim cnt (trn + 1) (addL ls (bki p s d a b) { r with till := 5, turn := trn + 1 }) := by
  have hkx := kx_addL hn hr
  have hme : move (addL ls (bki p s d a b) r) p s d a b 5 = 0 := by
    unfold move
    rw [if_neg (by simp [mayb]), if_neg (by rw [hkx]; simp)]
  refine (move_any base bt lim cnt trn _ p s d a b 5 w hT hg.1 hg.2.1 hg.2.2.1 hg.2.2.2 hbs (by omega)).mono ?_
  rintro e w1 ⟨rfl, h1⟩
  rw [hme] at h1 ⊢
  rcases h1 with ⟨h0, _⟩ | ⟨_, k, g, hk, hbg, hT1, hb1, hk1⟩
  · exact absurd rfl h0
  · rw [hkx] at hk
    cases hk
    rw [mvL_addL] at hT1
    refine ⟨rfl, hk1, hb1.below hbs (fun x hx e => ?_), hD.kt hk1, hT1⟩
    rcases e with rfl | rfl
    · obtain ⟨vs, hv⟩ := hT
      have := hv.2.1
      omega
    · omega

theorem back_drop (base bt bd : Nat) (lim lim2 cnt trn trn2 : Int) (ls : Nat → List Rw) (v : Value) (l : List Rw) (r : Rw) (p s d a b : Int) (w : World) (hT : TB base w bt lim cnt trn (addL ls (bki p s d a b) r)) (hD : DT base w bd v lim2 trn2 l) (hu : ∀ i, UQ (addL ls (bki p s d a b) r i)) (hn : kx p s d a b ls = none) (hr : isK p s d (kyp p a) b r = true) (hcn : 0 ≤ cnt ∧ cnt ≤ 1000) (hg : Rg5 p s d a b) (hbs : base ≤ w.heap.size) :
    Calls Try.prog 17 #[.pointer (some ⟨bt, 0, none⟩), .agg #[.int .u8 p, .int .u32 s, .int .u32 d, .int .u16 a, .int .u16 b]] w fun e w1 => e = .returned (.int .i64 0) ∧ KT w w1 ∧ Below base w w1 ∧ DT base w1 bd v lim2 trn2 l ∧ TB base w1 bt lim (cnt - 1) trn ls := by
  have hkx := kx_addL hn hr
  have hde : dpe (addL ls (bki p s d a b) r) p s d a b = 0 := by
    unfold dpe
    rw [if_neg (by rw [hkx]; simp)]
  refine (tdrop_any base bt lim cnt trn _ p s d a b w hT hu hg.1 hg.2.1 hg.2.2.1 hg.2.2.2 hbs (by omega)).mono ?_
  rintro e w1 ⟨rfl, ⟨hbl, hk1⟩, h1⟩
  rw [hde]
  rcases h1 with ⟨h0, _⟩ | ⟨k, hk, hT1⟩
  · rw [hkx] at h0; cases h0
  · rw [hkx] at hk
    cases hk
    rw [dpL_addL] at hT1
    exact ⟨rfl, hk1, hbl, hD.kt hk1, hT1⟩

theorem back_none (base bt bd : Nat) (lim lim2 cnt trn trn2 : Int) (ls : Nat → List Rw) (v : Value) (l : List Rw) (p s d a b : Int) (w : World) (hT : TB base w bt lim cnt trn ls) (hD : DT base w bd v lim2 trn2 l) (hu : ∀ i, UQ (ls i)) (hn : kx p s d a b ls = none) (hcn : 0 ≤ cnt ∧ cnt ≤ 1000) (hg : Rg5 p s d a b) (hbs : base ≤ w.heap.size) :
    Calls Try.prog 17 #[.pointer (some ⟨bt, 0, none⟩), .agg #[.int .u8 p, .int .u32 s, .int .u32 d, .int .u16 a, .int .u16 b]] w fun e w1 => e = .returned (.int .i64 11) ∧ KT w w1 ∧ Below base w w1 ∧ DT base w1 bd v lim2 trn2 l ∧ TB base w1 bt lim cnt trn ls := by
  have hde : dpe ls p s d a b = 11 := by
    unfold dpe
    rw [if_pos hn]
  refine (tdrop_any base bt lim cnt trn _ p s d a b w hT hu hg.1 hg.2.1 hg.2.2.1 hg.2.2.2 hbs (by omega)).mono ?_
  rintro e w1 ⟨rfl, ⟨hbl, hk1⟩, h1⟩
  rw [hde]
  rcases h1 with ⟨_, hT1⟩ | ⟨k, hk, _⟩
  · exact ⟨rfl, hk1, hbl, hD.kt hk1, hT1⟩
  · rw [hn] at hk; cases hk

theorem back_full (base bt bd : Nat) (lim lim2 trn trn2 : Int) (ls : Nat → List Rw) (v : Value) (l : List Rw) (p s d a b id : Int) (w : World) (hT : TB base w bt lim (l.length : Nat) trn ls) (hlm : lim ≤ 8) (hlw : (l.length : Int) ≤ lim) (hll : ¬ (l.length : Int) < lim) (ht0 : 0 ≤ trn ∧ trn ≤ 1000) (hn : kx p s d a b ls = none) (hg : Rg5 p s d a b) (hbs : base ≤ w.heap.size) (hlen : ∀ i, (ls i).length ≤ 1000) :
    Calls Try.prog 14 #[.pointer (some ⟨bt, 0, none⟩), .agg #[.int .u8 p, .int .u32 s, .int .u32 d, .int .u16 a, .int .u16 b], .int .i64 id, .int .i64 3] w fun e w1 => e = .returned (.int .i64 9) ∧ Later w w1 ∧ TB base w1 bt lim (l.length : Nat) trn ls := by
  obtain ⟨vs, hT⟩ := hT
  have hpe : pute lim l.length ls p s d a b 3 = 9 := by
    unfold pute
    rw [if_neg (by simp [mayb]), if_neg (by simp [hn]), if_pos (by omega)]
  refine (put_any base bt lim l.length trn vs ls p s d a b id 3 w hT hg.1 hg.2.1 hg.2.2.1 hg.2.2.2 hbs (by omega) (by omega) (by omega) (by have := hlen (bki p s d a b); omega)).mono ?_
  rintro e w1 ⟨rfl, h1⟩
  rw [hpe] at h1 ⊢
  rcases h1 with ⟨_, hT1, hb1⟩ | ⟨h0, _⟩
  · exact ⟨rfl, hb1, ⟨vs, hT1⟩⟩
  · exact absurd h0 (by omega)

set_option maxHeartbeats 8000000 in
theorem back_walk (w : World) (m : Int) (hm : 0 ≤ m ∧ m ≤ 255) (sv : Value) (ds : List De) (hI : RdE w.heap.size w sv ds) (hd : ∀ d ∈ ds, wfE d) (kd p s d a b id till : Int) (hg : Rg5 p s d a b) :
    Calls Try.prog 5 #[.int .u8 m, sv, .agg #[.int .i64 kd, .int .u8 p, .int .u32 s, .int .u32 d, .int .u16 a, .int .u16 b, .int .i64 id, .int .i64 till]] w fun e w' => e = .returned (.bool true) ∧ Below w.heap.size w w' := by
  obtain ⟨aa, ca, rfl, ha1, ha2⟩ := hI.slice
  have hmt : Int.tmod m 8 = m % 8 := Int.tmod_eq_emod_of_nonneg hm.1
  have lb0 : Later w (w.alloc (.cells #[.int .i64 kd, .int .u8 p, .int .u32 s, .int .u32 d, .int .u16 a, .int .u16 b, .int .i64 id, .int .i64 till] 28)) := (Below.refl _ _).alloc (Nat.le_refl _) _
  have c0 := heap_alloc_new w (.cells #[.int .i64 kd, .int .u8 p, .int .u32 s, .int .u32 d, .int .u16 a, .int .u16 b, .int .i64 id, .int .i64 till] 28)
  go_enter Try.func5, Try.ntmps5
  go_upto_region 1 with fail
  generalize w.alloc _ = w0 at *
  go_wp2_with fail
  refine (play6_any w.heap.size m _ ds w0 hm (hI.below lb0) hd lb0.size).mono ?_
  rintro e w1 ⟨l1, bt, bd, rfl, ls, v, l, trn, hT, hD, hR, hl1, hl2, ht0, ht1, hwf, hwt, hwk⟩
  have hr1 : 1 ≤ m % 8 + 1 := by omega
  have hr2 : m % 8 + 1 ≤ 8 := by omega
  have L1 := lb0.trans l1
  have hS1 := l1.size
  have hS0 := lb0.size
  have c1 := later_keep l1 c0
  clear c0 l1 lb0
  go_wp2_with fail
  refine (live6_any w1).mono ?_
  rintro e w2 ⟨rfl, l2⟩
  have L2 := L1.trans l2
  have hS2 : w0.heap.size ≤ w2.heap.size := Nat.le_trans hS1 (Below.size l2)
  have c2 := later_keep l2 c1
  have hT2 := TB.later hT l2
  have hD2 := DT.later hD l2
  clear c1 l2 L1 hT hD hS1
  have k2 := block_cell c2
  generalize hlm : m % 8 + 1 = lim at *
  have HLM := hide hlm
  clear hlm
  have HR := hide hR
  have HW := hide hwf
  have HWT := hide hwt
  have HL1 := hide hl1
  clear hR hwf hwt hwk hl1
  go_wp2_with fail
  refine (get_any w0.heap.size bt lim l.length trn ls p s d a b w2 hT2 hg.1 hg.2.1 hg.2.2.1 hg.2.2.2).mono ?_
  rintro e w3 ⟨l3, rfl⟩
  have L3 : Later w w3 := L2.trans l3
  have hS3 : w0.heap.size ≤ w3.heap.size := Nat.le_trans hS2 (Below.size l3)
  have c3 := later_keep l3 c2
  have hT3 := TB.later hT2 l3
  have hD3 := DT.later hD2 l3
  clear k2 c2 l3 L2 hT2 hD2 hS2
  have k3 := block_cell c3
  by_cases hkn : kx p s d a b ls = none
  · rw [gtv_none hkn]
    by_cases hll : (l.length : Int) < lim
    · have HP := hide (back_put w0.heap.size bt bd lim lim trn trn ls v l p s d a b id w3 hT3 hD3 HR.out hr2 hll ⟨ht0, by omega⟩ hkn hg hS3 (fun i => by have := HL1.out i; omega))
      go_wp2_with fail
      refine HP.out.mono ?_
      rintro e w4 ⟨rfl, hk4, hb4, hD4, hT4⟩
      have hS4 := Nat.le_trans hS3 hb4.size
      have L4 : Below w.heap.size w w4 := Below.trans L3 (hb4.mono hS0)
      have c4 := hk4 _ _ _ _ c3 (by decide) (by decide)
      clear k3 c3 L3 hT3 hD3 hS3 HP
      have k4 := block_cell c4
      have hrk : ∀ x y : Int, isK p s d (kyp p a) b ⟨p, s, d, kyp p a, b, id, x, y⟩ = true := fun x y => isK_iff.2 rfl
      have hRa := fun x y : Int => HR.out.add ⟨p, s, d, kyp p a, b, id, x, y⟩ (fun r hr => key_neq (kix_none_iff.1 ((HR.out.kxe p s d a b).1 hkn) r hr) id x y)
      have hbk : ∀ x y : Int, bkr ⟨p, s, d, kyp p a, b, id, x, y⟩ = bki p s d a b := fun x y => bkr_key (hrk x y)
      have HU := hide (fun x y : Int => (hbk x y ▸ hRa x y).uq)
      have HRK := hide hrk
      have HKN := hide hkn
      clear hRa hbk hrk hkn
      go_wp2_with fail
      refine (back_move w0.heap.size bt bd lim lim _ _ trn ls v l _ p s d a b w4 hT4 hD4 HKN.out (HRK.out _ _) ⟨by omega, by omega⟩ hg hS4).mono ?_
      rintro e w5 ⟨rfl, hk5, hb5, hD5, hT5⟩
      have hS5 := Nat.le_trans hS4 hb5.size
      have L5 : Below w.heap.size w w5 := Below.trans L4 (hb5.mono hS0)
      have c5 := hk5 _ _ _ _ c4 (by decide) (by decide)
      clear k4 c4 L4 hT4 hD4 hS4 hk4 hb4 hk5 hb5
      have k5 := block_cell c5
      have HG5 := hide (gtv_addL (ls := ls) HKN.out (HRK.out 5 (trn + 1 + 1)))
      go_wp2_with fail
      refine (get_any w0.heap.size bt lim _ _ _ p s d a b w5 hT5 hg.1 hg.2.1 hg.2.2.1 hg.2.2.2).mono ?_
      rintro e w6 ⟨l6, rfl⟩
      rw [show gtv p s d a b (addL ls (bki p s d a b) ⟨p, s, d, kyp p a, b, id, 5, trn + 1 + 1⟩) = _ from HG5.out]
      have hS6 : w0.heap.size ≤ w6.heap.size := Nat.le_trans hS5 (Below.size l6)
      have L6 : Below w.heap.size w w6 := Below.trans L5 (Below.mono l6 (Below.size L5))
      have c6 := later_keep l6 c5
      have hT6 := TB.later hT5 l6
      have hD6 := DT.later hD5 l6
      clear k5 c5 L5 hT5 hD5 hS5 l6
      have k6 := block_cell c6
      go_wp2_with fail
      refine (back_drop w0.heap.size bt bd lim lim _ _ trn ls v l _ p s d a b w6 hT6 hD6 (HU.out _ _) HKN.out (HRK.out _ _) ⟨by omega, by omega⟩ hg hS6).mono ?_
      rintro e w7 ⟨rfl, hk7, hb7, hD7, hT7⟩
      rw [show (l.length : Int) + 1 - 1 = (l.length : Int) from by omega] at hT7
      have hS7 := Nat.le_trans hS6 hb7.size
      have L7 : Below w.heap.size w w7 := Below.trans L6 (hb7.mono hS0)
      have c7 := hk7 _ _ _ _ c6 (by decide) (by decide)
      clear k6 c6 L6 hT6 hD6 hS6 hk7 hb7
      have k7 := block_cell c7
      go_wp2_with fail
      refine (back_none w0.heap.size bt bd lim lim _ _ trn ls v l p s d a b w7 hT7 hD7 HR.out.uq HKN.out ⟨by omega, by omega⟩ hg hS7).mono ?_
      rintro e w8 ⟨rfl, hk8, hb8, hD8, hT8⟩
      have hS8 := Nat.le_trans hS7 hb8.size
      have L8 : Below w.heap.size w w8 := Below.trans L7 (hb8.mono hS0)
      have c8 := hk8 _ _ _ _ c7 (by decide) (by decide)
      clear k7 c7 L7 hT7 hD7 hS7 hk8 hb8
      have k8 := block_cell c8
      go_wp2_with fail
      refine (same6_gen w0.heap.size bt bd lim lim _ trn ls v l p s d a b 9 w8 hT8 hD8 HR.out (by omega) HWT.out.2 hg).mono ?_
      rintro e w9 ⟨rfl, l9⟩
      have L9 : Below w.heap.size w w9 := Below.trans L8 (Below.mono l9 (Below.size L8))
      clear k8 c8
      go_wp2_with fail
      go_ret
      exact ⟨by simp, L9⟩
    · have HP := hide (back_full w0.heap.size bt bd lim lim trn trn ls v l p s d a b id w3 hT3 hr2 HW.out.1 hll ⟨ht0, by omega⟩ hkn hg hS3 (fun i => by have := HL1.out i; omega))
      go_wp2_with fail
      refine HP.out.mono ?_
      rintro e w4 ⟨rfl, l4, hT4⟩
      have L4 := L3.trans l4
      have hle : (l.length : Int) = lim := by have := HW.out.1; omega
      clear k3 c3 HP
      go_wp2_with fail
      refine (len_any w0.heap.size bt lim l.length trn ls w4 hT4).mono ?_
      rintro e w5 ⟨rfl, l5⟩
      have L5 := L4.trans l5
      rw [hle]
      have hlm := HLM.out
      go_wp2_with fail
      go_ret
      exact ⟨by simp, L5⟩
  · obtain ⟨x1, x2, hv⟩ := gtv_some hkn
    rw [hv]
    go_wp2_with fail
    go_ret
    exact ⟨by simp, L3⟩

theorem walk_TableBack (w : World) (m : Int) (hm : 0 ≤ m ∧ m ≤ 255) (sv : Value) (ds : List De) (hI : RdE w.heap.size w sv ds) (hd : ∀ d ∈ ds, wfE d) (kd p s d a b id till : Int) (hk : -9223372036854775808 ≤ kd ∧ kd ≤ 9223372036854775807) (hp : 0 ≤ p ∧ p ≤ 255) (hs : 0 ≤ s ∧ s ≤ 4294967295) (hdd : 0 ≤ d ∧ d ≤ 4294967295) (ha : 0 ≤ a ∧ a ≤ 65535) (hb : 0 ≤ b ∧ b ≤ 65535) (hi : -9223372036854775808 ≤ id ∧ id ≤ 9223372036854775807) (ht : -9223372036854775808 ≤ till ∧ till ≤ 9223372036854775807) :
    Calls Try.prog 5 #[.int .u8 m, sv, .agg #[.int .i64 kd, .int .u8 p, .int .u32 s, .int .u32 d, .int .u16 a, .int .u16 b, .int .i64 id, .int .i64 till]] w fun e w' => e = .returned (.bool true) ∧ Below w.heap.size w w' :=
  back_walk w m hm sv ds hI hd kd p s d a b id till ⟨hs, hdd, ha, hb⟩
end Go.Proofs.Ytahphjindjlcpaa

/- How an argument that is a slice of numbers of 16 bits reads. -/
namespace Go.Proofs.Ytahphjindjlcpaa
open Go.ChangeShapes Go.WideShapes Go.ChangeAt Go.RowKit
set_option maxRecDepth 100000
set_option linter.unusedVariables false

def U16s (ns : List Int) : Prop := ∀ z ∈ ns, 0 ≤ z ∧ z ≤ 65535
def RdH (n₀ : Nat) (W : World) (sv : Value) (ns : List Int) : Prop :=
  (∃ a cap, sv = .slice a 0 cap ∧ ns = [] ∧ cap ≤ 9223372036854775807) ∨
  ∃ b off cap, sv = .slice (some ⟨b, off, none⟩) ns.length cap ∧ ns ≠ [] ∧ ns.length ≤ cap ∧ cap ≤ 9223372036854775807 ∧ b < n₀ ∧ ∀ j, j < ns.length → W.cell? ⟨b, off + j, none⟩ = some (.int .u16 (ns[j]?.getD 0))
theorem RdH.below {n₀ : Nat} {A B : World} (h : Below n₀ A B) {sv : Value} {ns : List Int} : RdH n₀ A sv ns → RdH n₀ B sv ns
  | .inl e => .inl e
  | .inr ⟨b, off, cap, e, hne, hl, hm, hb, hc⟩ => .inr ⟨b, off, cap, e, hne, hl, hm, hb, fun j hj => (h.cell (p := ⟨b, off + j, none⟩) hb).trans (hc j hj)⟩
theorem RdH.mono {n₀ n₁ : Nat} {A : World} (h : n₀ ≤ n₁) {sv : Value} {ns : List Int} : RdH n₀ A sv ns → RdH n₁ A sv ns
  | .inl e => .inl e
  | .inr ⟨b, off, cap, e, hne, hl, hm, hb, hc⟩ => .inr ⟨b, off, cap, e, hne, hl, hm, Nat.lt_of_lt_of_le hb h, hc⟩
theorem RdH.slice {n₀ : Nat} {A : World} {sv : Value} {ns : List Int} : RdH n₀ A sv ns → ∃ a cap, sv = .slice a ns.length cap ∧ ns.length ≤ cap ∧ cap ≤ 9223372036854775807
  | .inl ⟨a, cap, e, hz, hm⟩ => ⟨a, cap, by rw [e, hz]; rfl, by rw [hz]; exact Nat.zero_le _, hm⟩
  | .inr ⟨b, off, cap, e, _, hl, hm, _⟩ => ⟨_, cap, e, hl, hm⟩
theorem RdH.cells {n₀ : Nat} {w : World} {sv : Value} {ns : List Int} (h : RdH n₀ w sv ns) (hne : 0 < ns.length) : ∃ b off cap, sv = .slice (some ⟨b, off, none⟩) ns.length cap ∧ ns.length ≤ cap ∧ cap ≤ 9223372036854775807 ∧ b < n₀ ∧ ∀ j, j < ns.length → w.cell? ⟨b, off + j, none⟩ = some (.int .u16 (ns[j]?.getD 0)) := by
  rcases h with ⟨a, cap, e, hz, _⟩ | ⟨b, off, cap, e, _, hl, hm, hb, hc⟩
  · subst hz; simp at hne
  · exact ⟨b, off, cap, e, hl, hm, hb, hc⟩

theorem rdH_of_row {W : World} (x : Addr) (l c : Nat) (zs : List Int) (hl : l ≤ c) (hm : c ≤ 9223372036854775807) (hz : zs.length = c) (hcell : ∀ i, i < zs.length → W.cell? (x.add i) = some (.int .u16 (zs.getD i 0))) (hwz : ∀ n ∈ zs, (Lit.int .u16 n).wf = true) : ∃ ys, U16s ys ∧ RdH W.heap.size W (.slice (some x) l c) ys := by
  refine ⟨zs.take l, fun z hz => ?_, ?_⟩
  · have := hwz z (List.mem_of_mem_take hz)
    simpa [Lit.wf, IntKind.min, IntKind.max, IntKind.signed, IntKind.bits] using this
  · by_cases h0 : l = 0
    · subst h0
      exact .inl ⟨_, _, rfl, by simp, hm⟩
    · obtain ⟨b, off, spot⟩ := x
      have hc := hcell 0 (by omega)
      have hspot : spot = none := by simpa [Addr.add] using World.cell?_spot hc
      subst hspot
      have hlen : (zs.take l).length = l := by simp; omega
      have hb : b < W.heap.size := by
        have := World.block_lt_of_cell? W _ hc
        simpa [Addr.add] using this
      refine .inr ⟨b, off, c, by rw [hlen], fun e => by rw [e] at hlen; simp at hlen; omega, by omega, hm, hb, fun j hj => ?_⟩
      have := hcell j (by omega)
      rw [show (⟨b, off, none⟩ : Addr).add j = ⟨b, off + j, none⟩ from by unfold Addr.add; split <;> simp_all] at this
      rw [this]
      simp [show j < l by omega]
end Go.Proofs.Ytahphjindjlcpaa

/- The walk of TopTable. -/
namespace Go.Proofs.Ytahphjindjlcpaa
open Go.RowKit Go.Shelf
set_option maxRecDepth 100000
set_option linter.unusedVariables false
set_option linter.unusedSimpArgs false

theorem allR_addL (ls : Nat → List Rw) (i : Nat) (hi : i < 256) (r : Rw) : (allR (addL ls i r)).length = (allR ls).length + 1 := by
  have h : ∀ n, ((List.range n).flatMap (addL ls i r)).length = ((List.range n).flatMap ls).length + if i < n then 1 else 0 := by
    intro n
    induction n with
    | zero => simp
    | succ n ih =>
      rw [List.range_succ, List.flatMap_append, List.flatMap_append, List.length_append, List.length_append, ih]
      have e : ([n].flatMap (addL ls i r)).length = ([n].flatMap ls).length + if n = i then 1 else 0 := by
        simp only [List.flatMap_cons, List.flatMap_nil, List.append_nil]
        unfold addL
        by_cases h : n = i
        · subst h; simp
        · simp [h]
      rw [e]
      split <;> split <;> split <;> omega
  unfold allR
  rw [h 256, if_pos hi]
theorem allR_mem {ls : Nat → List Rw} {i : Nat} {r x : Rw} (h : x ∈ allR (addL ls i r)) : x ∈ allR ls ∨ x = r := by
  unfold allR at h ⊢
  obtain ⟨j, hj, hx⟩ := List.mem_flatMap.1 h
  unfold addL at hx
  by_cases e : j = i
  · subst e
    rw [if_pos rfl] at hx
    rcases List.mem_append.1 hx with hx | hx
    · exact .inl (List.mem_flatMap.2 ⟨j, hj, hx⟩)
    · exact .inr (by simpa using hx)
  · rw [if_neg e] at hx
    exact .inl (List.mem_flatMap.2 ⟨j, hj, hx⟩)
theorem ls_le_all (ls : Nat → List Rw) (i : Nat) (hi : i < 256) : (ls i).length ≤ (allR ls).length := by
  obtain ⟨m, hm⟩ : ∃ m, 256 = i + 1 + m := ⟨255 - i, by omega⟩
  unfold allR
  rw [hm, List.range_add, List.range_succ, List.flatMap_append, List.flatMap_append]
  simp
  omega
theorem allR_nil : (allR (fun _ => [])).length = 0 := by unfold allR; rw [List.flatMap_eq_nil_iff.2 (fun _ _ => rfl)]; rfl

theorem wrapi (x : Int) (h1 : -9223372036854775808 ≤ x) (h2 : x ≤ 9223372036854775807) : IntKind.i64.wrap x = x := by
  simp [IntKind.wrap, IntKind.signed, IntKind.bits]
  omega

theorem but_cell {E : Nat → Prop} {A B : World} (h : But E A B) {p : Addr} (hp : p.block < A.heap.size) (hE : ¬ E p.block) : B.cell? p = A.cell? p := by
  unfold World.cell?
  rw [h.block p.block hp hE]

set_option maxHeartbeats 8000000 in
theorem walk_TopTable (w : World) (sp : Value) (ps : List Int) (hU : U16s ps) (hP : RdH w.heap.size w sp ps) (st : Value) (ts : List Int) (hB : Mt.By ts) (hI : Rd w.heap.size w st ts) :
    Calls Try.prog 6 #[sp, st] w fun e w' => e = .returned (.bool true) ∧ Below w.heap.size w w' := by
  obtain ⟨ap, cp, rfl, hp1, hp2⟩ := hP.slice
  obtain ⟨at', ct, rfl, hq1, hq2⟩ := hI.slice
  have HP := hide hP
  have HI := hide hI
  have HU := hide hU
  have HB := hide hB
  clear hP hI hU hB
  go_enter Try.func6, Try.ntmps6
  go_wp2_with fail
  refine (new_yes 64 w (by omega) (by omega)).mono ?_
  rintro e w1 ⟨rfl, l1, hT1⟩
  generalize hbt : w.heap.size = bt at *
  go_wp2_with fail
  go_loopw [6, 7] (fun n i wr => ∃ (k m : Nat) (ls : Nat → List Rw), k ≤ ps.length ∧ k ≤ ts.length ∧ k ≤ 60 ∧ m ≤ k ∧ i = .int .i64 (k : Int) ∧ n = .int .i64 (m : Int) ∧ TB bt wr bt 64 (m : Int) (m : Int) ls ∧ (allR ls).length = m ∧ (∀ r ∈ allR ls, r.till ≤ 255) ∧ Below bt w wr) (fun _ i _ => 60 - (intOf i).toNat)
  case atStart => exact ⟨0, 0, _, by omega, by omega, by omega, by omega, rfl, rfl, hT1, allR_nil, fun r hr => by have := List.length_pos_of_mem hr; rw [allR_nil] at this; omega, l1⟩
  case round =>
    obtain ⟨k, m, ls, hk1, hk2, hk3, hmk, rfl, rfl, hT, hal, htl, hbw⟩ := hrel
    by_cases hgo : k < ps.length ∧ k < ts.length ∧ k < 60
    · obtain ⟨g1, g2, g3⟩ := hgo
      have g1' : (k : Int) < ps.length := by omega
      have g2' : (k : Int) < ts.length := by omega
      have g3' : (k : Int) < 60 := by omega
      obtain ⟨b1, o1, c1, e, _, _, hb1, hcs1⟩ := (HP.out.below hbw).cells (by omega)
      simp at e
      obtain ⟨rfl, rfl⟩ := e
      obtain ⟨b2, o2, c2, e, _, _, hb2, hcs2⟩ := (HI.out.below hbw).cells (by omega)
      simp at e
      obtain ⟨rfl, rfl⟩ := e
      have d1 := hcs1 k g1
      have d2 := hcs2 k g2
      have hx : 0 ≤ ps[k]?.getD 0 ∧ ps[k]?.getD 0 ≤ 65535 := by rw [List.getElem?_eq_getElem g1]; exact HU.out _ (List.getElem_mem g1)
      have hy : 0 ≤ ts[k]?.getD 0 ∧ ts[k]?.getD 0 ≤ 255 := HB.out.at k
      clear hcs1 hcs2
      generalize ps[k]?.getD 0 = x at *
      generalize ts[k]?.getD 0 = y at *
      have la : Later wr (wr.alloc (.cells #[.int .u8 17, .int .u32 0, .int .u32 0, .int .u16 x, .int .u16 0] 26)) := (Below.refl _ _).alloc (Nat.le_refl _) _
      have t0 := heap_alloc_new wr (.cells #[.int .u8 17, .int .u32 0, .int .u32 0, .int .u16 x, .int .u16 0] 26)
      have k0 := block_cell t0
      have hsw : bt ≤ wr.heap.size := by have := hbw.size; omega
      go_wp2_with fail
      generalize wr.alloc _ = w2 at *
      have hT2 := TB.later hT la
      have hk5 : w2.cell? ⟨b2, o2 + k, none⟩ = some (.int .u8 y) := la.cell d2
      have hbw2 : Below bt w w2 := hbw.trans (la.mono hsw)
      refine (get_any bt bt 64 _ _ ls 17 0 0 x 0 w2 hT2 (by omega) (by omega) hx (by omega)).mono ?_
      rintro e w3 ⟨hl3, rfl⟩
      have l3 : Later w2 w3 := hl3
      have hT3 := TB.later hT2 l3
      have t3 := later_keep l3 t0
      have d3 : w3.cell? ⟨b2, o2 + k, none⟩ = some (.int .u8 y) := l3.cell hk5
      have hs2 : bt ≤ w2.heap.size := by have := hbw2.size; omega
      have hbw3 : Below bt w w3 := hbw2.trans (Below.mono l3 hs2)
      have hs3 : bt ≤ w3.heap.size := by have := hbw3.size; omega
      have hg3 : wr.heap.size < w3.heap.size := (Array.getElem?_eq_some_iff.1 t3).1
      clear k0 t0 hT hT2 hbw2 hk5 la l3 hl3 d1 d2 hbw
      have hmy : mayb y = true := by unfold mayb; simp; omega
      obtain ⟨vs, hTv⟩ := hT3
      have hlen : (ls (bki 17 0 0 x 0)).length ≤ 5000 := by have := ls_le_all ls _ (bki_lt 17 0 0 x 0); omega
      have HPUT := hide (fun (i0 : Int) => put_any bt bt 64 (m : Int) (m : Int) vs ls 17 0 0 x 0 i0 y w3.drew (hTv.later (Later.drew w3)) (by omega) (by omega) hx (by omega) (by have := (Later.drew w3).size; omega) (by omega) (by omega) (by omega) hlen)
      have HTY := hide (fun g (h : g = bt ∨ (vs[bki 17 0 0 x 0]?.getD undef).ownBlock = some g) => by
        have hne : g ≠ wr.heap.size := fun e => by
          obtain ⟨c5, t5, f5, q5, q6⟩ := hTv.typed _ (bki_lt 17 0 0 x 0) g h
          rw [e, t3] at q5
          cases q5
          rcases q6 with h | h <;> exact absurd h (by decide)
        have hge : bt ≤ g := by
          rcases h with h | h
          · omega
          · exact ((hTv.2.2.2.1 _ (bki_lt 17 0 0 x 0)).lt g h).1
        exact (⟨hge, hne⟩ : bt ≤ g ∧ g ≠ wr.heap.size))
      have hb2' : b2 < bt := by omega
      have HWY := hide (wrapi y (by omega) (by omega))
      clear hlen
      generalize wr.heap.size = gt at *
      by_cases hkn : kx 17 0 0 x 0 ls = none
      · rw [gtv_none hkn]
        have hpe : pute 64 (m : Int) ls 17 0 0 x 0 y = 0 := by
          unfold pute
          rw [if_neg (by simp [hmy]), if_neg (by simp [hkn]), if_neg (by omega)]
        have HPE := hide hpe
        have HKN := hide hkn
        clear hpe hkn
        go_upto_region 8 with fail
        refine anyT_begin (R := But (fun g => bt ≤ g ∧ g ≠ gt)) 10 rfl (by kernel_rfl) ?_
        have q1 : ∀ v1, But (fun g => bt ≤ g ∧ g ≠ gt) w3.drew v1 → ∀ j, v1.cell? ⟨gt, j, none⟩ = #[.int .u8 17, .int .u32 0, .int .u32 0, .int .u16 x, .int .u16 0][j]? := fun v1 h => block_cell ((h.block gt (Array.getElem?_eq_some_iff.1 (later_keep (Later.drew w3) t3)).1 (fun e => e.2 rfl)).trans (later_keep (Later.drew w3) t3))
        have q2 : ∀ v1, But (fun g => bt ≤ g ∧ g ≠ gt) w3.drew v1 → v1.cell? ⟨b2, o2 + k, none⟩ = some (.int .u8 y) := fun v1 h => (but_cell h (p := ⟨b2, o2 + k, none⟩) (Nat.lt_of_lt_of_le hb2' (by have := (Later.drew w3).size; omega)) (fun e => by have h9 : bt ≤ b2 := e.1; omega)).trans ((Later.drew w3).cell d3)
        refine anyT_val (But.pre _) 0 rfl (by kernel_rfl) (by kernel_rfl) (by kernel_rfl) (fun _ _ _ _ h => h) rfl ?_; apply Exists.intro; refine ⟨fun v1 hv1 => ?_, ?_⟩; (· (go_simp; rfl)); simp only [Act.put, List.setIfInBounds_toArray, List.set_cons_zero, List.set_cons_succ]
        refine anyT_val (But.pre _) 1 rfl (by kernel_rfl) (by kernel_rfl) (by kernel_rfl) (fun _ _ _ _ h => h) rfl ?_; apply Exists.intro; refine ⟨fun v1 hv1 => ?_, ?_⟩; (· (go_simp; rfl)); simp only [Act.put, List.setIfInBounds_toArray, List.set_cons_zero, List.set_cons_succ]
        refine anyT_val (But.pre _) 2 rfl (by kernel_rfl) (by kernel_rfl) (by kernel_rfl) (fun _ _ _ _ h => h) rfl ?_; apply Exists.intro; refine ⟨fun v1 hv1 => ?_, ?_⟩; (· (go_simp; rfl)); simp only [Act.put, List.setIfInBounds_toArray, List.set_cons_zero, List.set_cons_succ]
        refine anyT_val (But.pre _) 3 rfl (by kernel_rfl) (by kernel_rfl) (by kernel_rfl) (fun _ _ _ _ h => h) rfl ?_; apply Exists.intro; refine ⟨fun v1 hv1 => ?_, ?_⟩; (· (go_simp; rfl)); simp only [Act.put, List.setIfInBounds_toArray, List.set_cons_zero, List.set_cons_succ]
        refine anyT_val (But.pre _) 4 rfl (by kernel_rfl) (by kernel_rfl) (by kernel_rfl) (fun _ _ _ _ h => h) rfl ?_; apply Exists.intro; refine ⟨fun v1 hv1 => ?_, ?_⟩; (· (go_simp; rfl)); simp only [Act.put, List.setIfInBounds_toArray, List.set_cons_zero, List.set_cons_succ]
        refine anyT_val (But.pre _) 5 rfl (by kernel_rfl) (by kernel_rfl) (by kernel_rfl) (fun _ _ _ _ h => h) rfl ?_; apply Exists.intro; refine ⟨fun v1 hv1 => ?_, ?_⟩; (· (go_simp; rfl)); simp only [Act.put, List.setIfInBounds_toArray, List.set_cons_zero, List.set_cons_succ]
        refine anyT_val (But.pre _) 6 rfl (by kernel_rfl) (by kernel_rfl) (by kernel_rfl) (fun _ _ _ _ h => h) rfl ?_; apply Exists.intro; refine ⟨fun v1 hv1 => ?_, ?_⟩; (· (go_simp; rfl)); simp only [Act.put, List.setIfInBounds_toArray, List.set_cons_zero, List.set_cons_succ]
        refine anyT_val (But.pre _) 7 rfl (by kernel_rfl) (by kernel_rfl) (by kernel_rfl) (fun _ _ _ _ h => h) rfl ?_; apply Exists.intro; refine ⟨fun v1 hv1 => ?_, ?_⟩; (· (go_simp; rfl)); simp only [Act.put, List.setIfInBounds_toArray, List.set_cons_zero, List.set_cons_succ]
        clear q1 q2
        refine anyT_one 8 rfl (by kernel_rfl) rfl ?_
        refine wp_enter 14 #[.pointer (some ⟨bt, 0, none⟩), .agg #[.int .u8 17, .int .u32 0, .int .u32 0, .int .u16 x, .int .u16 0], .int .i64 (k : Int), .int .i64 y] (by go_simp; exact HWY.out) ?_
        refine (HPUT.out (k : Int)).mono ?_
        rintro e w5 ⟨rfl, h5⟩
        rw [HPE.out] at h5 ⊢
        rcases h5 with ⟨h5, _⟩ | ⟨_, hT5, hb5⟩
        · exact absurd rfl h5
        have hb6 : But (fun g => bt ≤ g ∧ g ≠ gt) w3.drew w5 := ⟨hb5.os, hb5.tape, hb5.output, hb5.size, fun g hg he => hb5.block g hg (fun e => he (HTY.out g e))⟩
        refine ⟨hb6, ?_⟩
        simp only [Act.put, List.setIfInBounds_toArray, List.set_cons_zero, List.set_cons_succ]
        refine anyT_val (But.pre _) 9 rfl (by kernel_rfl) (by kernel_rfl) (by kernel_rfl) (fun _ _ _ _ h => h) rfl ?_; apply Exists.intro; refine ⟨fun v1 hv1 => ?_, ?_⟩; (· (go_simp; rfl)); simp only [Act.put, List.setIfInBounds_toArray, List.set_cons_zero, List.set_cons_succ]
        refine anyT_done (by kernel_rfl) ?_
        have hbw5 : Below bt w w5 := hbw3.trans (((Later.drew w3).mono hs3).trans (hb6.below (by have := (Later.drew w3).size; omega) (fun g hg e => by have := e.1; omega)))
        have hal5 := allR_addL ls _ (bki_lt 17 0 0 x 0) ⟨17, 0, 0, kyp 17 x, 0, (k : Int), y, (m : Int) + 1⟩
        have htl5 : ∀ r ∈ allR (addL ls (bki 17 0 0 x 0) ⟨17, 0, 0, kyp 17 x, 0, (k : Int), y, (m : Int) + 1⟩), r.till ≤ 255 := fun r hr => by
          rcases allR_mem hr with h | rfl
          · exact htl r h
          · show y ≤ 255
            omega
        have HT5 := hide hT5
        have HA5 := hide hal5
        have HL5 := hide htl5
        have HAL := hide hal
        have hm6 : (m : Int) + 1 ≤ 9223372036854775807 := by omega
        clear hT5 hal5 htl5 hb5 hb6 HPUT hal htl
        go_wp2_with fail
        go_roundw
        case rel => exact ⟨k + 1, m + 1, _, by omega, by omega, by omega, by omega, by go_num, by go_num, by have := HT5.out; push_cast; exact this, by rw [HA5.out, HAL.out], HL5.out, hbw5⟩
        case measure => simp [intOf]; omega
      · obtain ⟨z1, z2, hv⟩ := gtv_some hkn
        rw [hv]
        have hpe : pute 64 (m : Int) ls 17 0 0 x 0 y = 10 := by
          unfold pute
          rw [if_neg (by simp [hmy]), if_pos hkn]
        have HPE := hide hpe
        clear hpe hkn hv
        go_upto_region 8 with fail
        refine anyT_begin (R := But (fun g => bt ≤ g ∧ g ≠ gt)) 10 rfl (by kernel_rfl) ?_
        have q1 : ∀ v1, But (fun g => bt ≤ g ∧ g ≠ gt) w3.drew v1 → ∀ j, v1.cell? ⟨gt, j, none⟩ = #[.int .u8 17, .int .u32 0, .int .u32 0, .int .u16 x, .int .u16 0][j]? := fun v1 h => block_cell ((h.block gt (Array.getElem?_eq_some_iff.1 (later_keep (Later.drew w3) t3)).1 (fun e => e.2 rfl)).trans (later_keep (Later.drew w3) t3))
        have q2 : ∀ v1, But (fun g => bt ≤ g ∧ g ≠ gt) w3.drew v1 → v1.cell? ⟨b2, o2 + k, none⟩ = some (.int .u8 y) := fun v1 h => (but_cell h (p := ⟨b2, o2 + k, none⟩) (Nat.lt_of_lt_of_le hb2' (by have := (Later.drew w3).size; omega)) (fun e => by have h9 : bt ≤ b2 := e.1; omega)).trans ((Later.drew w3).cell d3)
        refine anyT_val (But.pre _) 0 rfl (by kernel_rfl) (by kernel_rfl) (by kernel_rfl) (fun _ _ _ _ h => h) rfl ?_; apply Exists.intro; refine ⟨fun v1 hv1 => ?_, ?_⟩; (· (go_simp; rfl)); simp only [Act.put, List.setIfInBounds_toArray, List.set_cons_zero, List.set_cons_succ]
        refine anyT_val (But.pre _) 1 rfl (by kernel_rfl) (by kernel_rfl) (by kernel_rfl) (fun _ _ _ _ h => h) rfl ?_; apply Exists.intro; refine ⟨fun v1 hv1 => ?_, ?_⟩; (· (go_simp; rfl)); simp only [Act.put, List.setIfInBounds_toArray, List.set_cons_zero, List.set_cons_succ]
        refine anyT_val (But.pre _) 2 rfl (by kernel_rfl) (by kernel_rfl) (by kernel_rfl) (fun _ _ _ _ h => h) rfl ?_; apply Exists.intro; refine ⟨fun v1 hv1 => ?_, ?_⟩; (· (go_simp; rfl)); simp only [Act.put, List.setIfInBounds_toArray, List.set_cons_zero, List.set_cons_succ]
        refine anyT_val (But.pre _) 3 rfl (by kernel_rfl) (by kernel_rfl) (by kernel_rfl) (fun _ _ _ _ h => h) rfl ?_; apply Exists.intro; refine ⟨fun v1 hv1 => ?_, ?_⟩; (· (go_simp; rfl)); simp only [Act.put, List.setIfInBounds_toArray, List.set_cons_zero, List.set_cons_succ]
        refine anyT_val (But.pre _) 4 rfl (by kernel_rfl) (by kernel_rfl) (by kernel_rfl) (fun _ _ _ _ h => h) rfl ?_; apply Exists.intro; refine ⟨fun v1 hv1 => ?_, ?_⟩; (· (go_simp; rfl)); simp only [Act.put, List.setIfInBounds_toArray, List.set_cons_zero, List.set_cons_succ]
        refine anyT_val (But.pre _) 5 rfl (by kernel_rfl) (by kernel_rfl) (by kernel_rfl) (fun _ _ _ _ h => h) rfl ?_; apply Exists.intro; refine ⟨fun v1 hv1 => ?_, ?_⟩; (· (go_simp; rfl)); simp only [Act.put, List.setIfInBounds_toArray, List.set_cons_zero, List.set_cons_succ]
        refine anyT_val (But.pre _) 6 rfl (by kernel_rfl) (by kernel_rfl) (by kernel_rfl) (fun _ _ _ _ h => h) rfl ?_; apply Exists.intro; refine ⟨fun v1 hv1 => ?_, ?_⟩; (· (go_simp; rfl)); simp only [Act.put, List.setIfInBounds_toArray, List.set_cons_zero, List.set_cons_succ]
        refine anyT_val (But.pre _) 7 rfl (by kernel_rfl) (by kernel_rfl) (by kernel_rfl) (fun _ _ _ _ h => h) rfl ?_; apply Exists.intro; refine ⟨fun v1 hv1 => ?_, ?_⟩; (· (go_simp; rfl)); simp only [Act.put, List.setIfInBounds_toArray, List.set_cons_zero, List.set_cons_succ]
        clear q1 q2
        refine anyT_one 8 rfl (by kernel_rfl) rfl ?_
        refine wp_enter 14 #[.pointer (some ⟨bt, 0, none⟩), .agg #[.int .u8 17, .int .u32 0, .int .u32 0, .int .u16 x, .int .u16 0], .int .i64 (k : Int), .int .i64 y] (by go_simp; exact HWY.out) ?_
        refine (HPUT.out (k : Int)).mono ?_
        rintro e w5 ⟨rfl, h5⟩
        rw [HPE.out] at h5 ⊢
        rcases h5 with ⟨_, hT5, hb5⟩ | ⟨h5, _⟩
        · have l5 : Later w3.drew w5 := hb5
          refine ⟨But.of l5, ?_⟩
          simp only [Act.put, List.setIfInBounds_toArray, List.set_cons_zero, List.set_cons_succ]
          refine anyT_val (But.pre _) 9 rfl (by kernel_rfl) (by kernel_rfl) (by kernel_rfl) (fun _ _ _ _ h => h) rfl ?_; apply Exists.intro; refine ⟨fun v1 hv1 => ?_, ?_⟩; (· (go_simp; rfl)); simp only [Act.put, List.setIfInBounds_toArray, List.set_cons_zero, List.set_cons_succ]
          refine anyT_done (by kernel_rfl) ?_
          have hbw5 : Below bt w w5 := hbw3.trans (((Later.drew w3).mono hs3).trans (l5.mono (by have := (Later.drew w3).size; omega)))
          have HT5 := hide hT5
          have HAL := hide hal
          have HTL := hide htl
          clear hT5 hb5 HPUT hal htl
          go_wp2_with fail
          go_roundw
          case rel => exact ⟨k + 1, m, ls, by omega, by omega, by omega, by omega, by go_num, rfl, ⟨vs, HT5.out⟩, HAL.out, HTL.out, hbw5⟩
          case measure => simp [intOf]; omega
        · exact absurd h5 (by omega)
    · have hdu : (duR 255 (allR ls)).length = m := by
        unfold duR
        rw [List.filter_eq_self.2 (fun r hr => by simpa using htl r hr)]
        exact hal
      have HDU := hide (due_len bt bt 64 (m : Int) (m : Int) 255 ls wr hT (sorts_len _ (by rw [hdu]; omega)) (by omega))
      rw [hdu] at HDU
      have hm60 : m ≤ 60 := by omega
      have hxx : ¬ ((k : Int) < ps.length) ∨ ((k : Int) < ps.length ∧ ¬ ((k : Int) < ts.length)) ∨ ((k : Int) < ps.length ∧ (k : Int) < ts.length ∧ k = 60) := by omega
      have hbs : w.heap.size ≤ wr.heap.size := by have := hbw.size; omega
      have HTR := hide hT
      have hpe : pute 1 0 (fun _ => []) 0 0 0 0 0 1 = 0 := by
        have hk : kx 0 0 0 0 0 (fun _ => []) = none := by unfold kx; exact kix_none fun j hj => by simp at hj
        unfold pute
        rw [if_neg (by simp [mayb]), if_neg (by simp [hk]), if_neg (by omega)]
      have HPE := hide hpe
      clear hdu hal htl hT hpe hgo
      rcases hxx with h1 | ⟨h1, h2⟩ | ⟨h1, h2, rfl⟩
      all_goals
        go_wp2_with fail
        refine HDU.out.mono ?_
        rintro e w6 ⟨hl6, g6, rfl⟩
        have l6 : Later wr w6 := hl6
        go_wp2_with fail
        refine (new_yes 1 w6 (by omega) (by omega)).mono ?_
        rintro e w7 ⟨rfl, hl7, vs7, hT7⟩
        have l7 : Later w6 w7 := hl7
        have L7 : Later wr w7 := l6.trans l7
        go_wp2_with fail
        refine (len_any bt bt 64 (m : Int) (m : Int) ls w7 (TB.later HTR.out L7)).mono ?_
        rintro e w8 ⟨rfl, hl8⟩
        have l8 : Later w7 w8 := hl8
        have L8 := L7.trans l8
        have hs8 : w6.heap.size ≤ w8.heap.size := Nat.le_trans (Below.size hl7) (Below.size hl8)
        have hT8 := hT7.later l8
        go_wp2_with fail
        refine (put_any w6.heap.size w6.heap.size 1 0 0 vs7 (fun _ => []) 0 0 0 0 0 1 1 w8 hT8 (by omega) (by omega) (by omega) (by omega) hs8 (by omega) (by omega) (by omega) (by simp)).mono ?_
        rintro e w9 ⟨rfl, h9⟩
        rw [HPE.out] at h9 ⊢
        rcases h9 with ⟨h9, _⟩ | ⟨_, hT9, hb9⟩
        · exact absurd rfl h9
        have hb9' : Below w6.heap.size w8 w9 := hT8.below_but _ (bki_lt 0 0 0 0 0) hs8 hb9
        go_wp2_with fail
        refine (len_any w6.heap.size w6.heap.size 1 (0 + 1) (0 + 1) _ w9 hT9).mono ?_
        rintro e w10 ⟨rfl, hl10⟩
        have hfin : Below bt w w10 := by
          have z1 : Below bt w w8 := hbw.trans (Below.mono L8 (by omega))
          have z2 : Below bt w8 w9 := hb9'.mono (by have := l6.size; omega)
          have z3 : Below bt w9 w10 := Below.mono hl10 (by have := (z1.trans z2).size; omega)
          exact z1.trans (z2.trans z3)
        go_wp2_with fail
        go_ret
        exact ⟨by simp, by rw [hbt]; exact hfin⟩
end Go.Proofs.Ytahphjindjlcpaa
