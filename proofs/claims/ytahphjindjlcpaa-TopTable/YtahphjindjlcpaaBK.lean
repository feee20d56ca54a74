/- Package table: Due, the walk itself. -/
import Derived.Test.YtahphjindjlcpaaBJ
namespace Go.Proofs.Ytahphjindjlcpaa
open Go.RowKit Go.Shelf
set_option maxRecDepth 100000
attribute [local go_sem] Oper.semAt_some
set_option linter.unusedVariables false
set_option linter.unusedSimpArgs false

theorem hset_ne {W : World} {n m j : Nat} {v : Value} {o : Obj} (h : W.heap[n]? = some o) (hne : n ≠ m) : (W.setCell ⟨m, j, none⟩ v).heap[n]? = some o := (Below.heap_setCell W ⟨m, j, none⟩ v n hne).trans h
/-- The keys of rows. -/
def rks (l : List Rw) : List Value := l.flatMap rwk
theorem rks_length (l : List Rw) : (rks l).length = l.length * 5 := by
  induction l with
  | nil => rfl
  | cons r l ih => unfold rks at ih ⊢; simp [rwk] at ih ⊢; omega
theorem rks_snoc (l : List Rw) (r : Rw) : rks (l ++ [r]) = rks l ++ rwk r := by unfold rks; simp
theorem putRow_mid {n : Nat} {t : TypeId} : ∀ (vs pre mid post : List Value) (W : World), W.heap[n]? = some (.cells (pre ++ (mid ++ post)).toArray t (0, 0)) → mid.length = vs.length → (putRow W n pre.length vs).heap[n]? = some (.cells (pre ++ (vs ++ post)).toArray t (0, 0))
  | [], pre, mid, post, W, h, hl => by
    have : mid = [] := List.length_eq_zero_iff.1 hl
    subst this
    exact h
  | v :: r, pre, [], post, W, h, hl => by simp at hl
  | v :: r, pre, p :: mid, post, W, h, hl => by
    have h1 := heap_set1 h pre.length v
    have e : ((pre ++ (p :: mid ++ post)).toArray.setIfInBounds pre.length v) = ((pre ++ [v]) ++ (mid ++ post)).toArray := by
      simp
    rw [e] at h1
    have := putRow_mid r (pre ++ [v]) mid post _ h1 (by simpa using hl)
    simpa [putRow] using this

theorem info_tupl : (Try.prog.info? 26).map (fun i => (i.zero, i.size, i.bytes)) = some (some (.agg #[.int .u8 0, .int .u32 0, .int .u32 0, .int .u16 0, .int .u16 0]), 5, 16) := by kernel_rfl

set_option maxRecDepth 100000 in
set_option maxHeartbeats 4000000 in
theorem due_any (base bt : Nat) (lim cnt trn now : Int) (ls : Nat → List Rw) (l' : List Rw) (w : World) (hT : TB base w bt lim cnt trn ls) (hS : SortsTo (duR now (allR ls)) l') (hal : (allR ls).length ≤ 5000) :
    Calls Try.prog 19 #[.pointer (some ⟨bt, 0, none⟩), .int .i64 now] w fun e w' => Below w.heap.size w w' ∧ ∃ g, e = .returned (.slice (some ⟨g, 0, none⟩) l'.length l'.length) ∧ w.heap.size ≤ g ∧ w'.heap[g]? = some (.cells (rks l').toArray 26 (0, 0)) := by
  obtain ⟨vs, hT⟩ := hT
  refine (callsIn_wide (n := 5)).1 ?_
  refine callsIn_of_wp_marks Try.func19 rfl trivial ?_ rfl
  simp only [Try.ntmps19, List.size_toArray, List.length_cons, List.length_nil, Nat.reduceAdd, Nat.reduceSub, Array.replicate_succ, Array.replicate_zero, List.push_toArray, List.append_toArray, List.nil_append, List.cons_append]
  have hb4 : Later w (((w.alloc (.cells #[.int .i64 now] 3)).alloc (.cells #[.slice none 0 0] 57)).alloc (.cells #[.pointer (some ⟨bt, 3, none⟩)] 66)) := (((Below.refl _ _).alloc (Nat.le_refl _) _).alloc (by simp) _).alloc (by simp <;> omega) _
  have c0 : (((w.alloc (.cells #[.int .i64 now] 3)).alloc (.cells #[.slice none 0 0] 57)).alloc (.cells #[.pointer (some ⟨bt, 3, none⟩)] 66)).heap[w.heap.size]? = some (.cells #[.int .i64 now] 3) := (Below.heap_alloc _ _ _ (by simp <;> omega)).trans ((Below.heap_alloc _ _ _ (by simp)).trans (heap_alloc_new w _))
  have c1 : (((w.alloc (.cells #[.int .i64 now] 3)).alloc (.cells #[.slice none 0 0] 57)).alloc (.cells #[.pointer (some ⟨bt, 3, none⟩)] 66)).heap[w.heap.size + 1]? = some (.cells #[.slice none 0 0] 57) := by
    have := heap_alloc_new (w.alloc (.cells #[.int .i64 now] 3)) (.cells #[.slice none 0 0] 57)
    rw [World.size_alloc] at this
    exact (Below.heap_alloc _ _ _ (by simp)).trans this
  have c2 : (((w.alloc (.cells #[.int .i64 now] 3)).alloc (.cells #[.slice none 0 0] 57)).alloc (.cells #[.pointer (some ⟨bt, 3, none⟩)] 66)).heap[w.heap.size + 1 + 1]? = some (.cells #[.pointer (some ⟨bt, 3, none⟩)] 66) := by
    have := heap_alloc_new ((w.alloc (.cells #[.int .i64 now] 3)).alloc (.cells #[.slice none 0 0] 57)) (.cells #[.pointer (some ⟨bt, 3, none⟩)] 66)
    simpa only [World.size_alloc] using this
  have hs4 : (((w.alloc (.cells #[.int .i64 now] 3)).alloc (.cells #[.slice none 0 0] 57)).alloc (.cells #[.pointer (some ⟨bt, 3, none⟩)] 66)).heap.size = w.heap.size + 1 + 1 + 1 := by simp
  have C0 := hide c0
  have C1 := hide c1
  have C2 := hide c2
  have HS4 := hide hs4
  clear c0 c1 c2 hs4
  gi_wp2_with (refine ⟨trivial, ?_⟩; gi_at_call 39; refine (all_in _ _ _).mono ?_; rintro e w' ⟨rfl, rfl⟩)
  generalize ((w.alloc (.cells #[.int .i64 now] 3)).alloc (.cells #[.slice none 0 0] 57)).alloc (.cells #[.pointer (some ⟨bt, 3, none⟩)] 66) = w4 at *
  have hs4 : w4.heap.size = w.heap.size + 1 + 1 + 1 := HS4.out
  refine wpIn_rangeX (w := w4) rfl (by omega) (gf := 51) (lb := #[.pointer (some ⟨w.heap.size + 1 + 1, 0, none⟩)]) rfl trivial (enters_of Try.func51 (by kernel_rfl) rfl)
    (all_gen 4 (by omega) (w.heap.size + 1 + 1) bt w.heap.size base lim cnt trn vs ls w w4 hT rfl hb4 (by omega) (block_cell C2.out 0))
    (fun h k => h.trans k) (fun W l o o' hl ho hc hw => belowK_b (w := w4) (by omega) W l o o' hl ho hc hw) (fun hA hL => hL.mono (by omega)) (fun _ _ _ _ h _ => h) (fun _ _ _ _ _ _ _ _ _ h => h) (fun _ => rfl)
    (fun pre W => PD w.heap.size (w.heap.size + 1 + 1 + 1) now pre W ∧ Below w.heap.size w W) (fun pre W => False)
    (OwnFrom.and (fun s A B row hs hg hr => hs.ct (CT.row hg (fun r e => (hr r e).2))) (ownFrom_below (Nat.le_refl _) (by omega)))
    (fun s A B h l => ⟨h.1.ct (CT.of l), h.2.trans (l.mono h.2.size)⟩)
    (fun s A B row hs hg hr => hs)
    ⟨⟨⟨.slice none 0 0, C1.out, rfl, .inl ⟨rfl, rfl⟩⟩, C0.out⟩, hb4⟩
    (fun x a' W => ∃ bx : Nat, w.heap.size + 1 + 1 + 1 ≤ bx ∧ W.heap[bx]? = some (.cells #[.int .u8 x.p, .int .u32 x.s, .int .u32 x.d, .int .u16 x.a, .int .u16 x.b, .int .i64 x.id, .int .i64 x.till, .int .i64 x.turn] 65 (0, 0)) ∧ a' = { tmps := #[.pointer (some ⟨bt, 0, none⟩), .int .i64 now, undef, .pointer (some ⟨w.heap.size, 0, none⟩), .slice none 0 0, .pointer (some ⟨w.heap.size + 1, 0, none⟩), .pointer (some ⟨bx, 0, none⟩), undef, undef, undef, .pointer (some ⟨bt, 0, none⟩), .bool false, .pointer (some ⟨bt, 0, none⟩), .pointer (some ⟨bt, 0, none⟩), .pointer (some ⟨bt, 3, none⟩), .func (.func 51) #[] #[.pointer (some ⟨w.heap.size + 1 + 1, 0, none⟩)], .agg #[.int .u8 x.p, .int .u32 x.s, .int .u32 x.d, .int .u16 x.a, .int .u16 x.b, .int .i64 x.id, .int .i64 x.till, .int .i64 x.turn], undef, undef, undef, undef, undef, undef, undef, undef, undef, undef, undef, undef, undef, undef, undef, undef, undef, undef, undef, undef, undef, undef, undef, undef, undef, undef, undef], defers := [] })
    (fun x a' W l o o' hl ho hc h => by obtain ⟨bx, h1, h2, h3⟩ := h; exact ⟨bx, h1, (CT.put ho hc).2 _ _ h2 rfl, h3⟩) ?assign ?body ?done ?stop
  case assign =>
    rintro l pre x W K hsz _ hX hK
    dsimp only [encR, rwc]
    gi_wp2
    refine hK _ _ ?_ ⟨W.heap.size, by omega, heap_alloc_new _ _, rfl⟩
    exact (Below.refl _ W).alloc (Nat.le_refl _) _
  case body =>
    rintro l pre x a' W ⟨⟨⟨v, hob, hOw⟩, hr0⟩, hbW⟩ hX ⟨bx, hbx, hbo, rfl⟩
    have hbsz := hbW.size
    have Kb := block_cell hbo
    have Kn := block_cell hr0
    have hobl := (Array.getElem?_eq_some_iff.1 hob).1
    have hbl := (Array.getElem?_eq_some_iff.1 hbo).1
    have hal2 : pre.length ≤ 5000 := by obtain ⟨rest, e⟩ := hX; have := congrArg List.length e; simp at this; omega
    by_cases htl : x.till ≤ now
    · have hdu := duR_yes (l := pre) htl
      have hdl : (duR now pre).length ≤ 5000 := Nat.le_trans (duR_length now pre) hal2
      have Kv := block_cell hob
      have Fv := block_frozen hob
      obtain ⟨sa, cap, rfl, _, _⟩ := (ownR_rd hOw).slice
      obtain ⟨i0, hi, hz0, hz1, hz2⟩ := info_parts info_row
      have la : Later W (W.alloc (.cells #[.int .u8 x.p, .int .u32 x.s, .int .u32 x.d, .int .u16 x.a, .int .u16 x.b, .int .i64 x.id, .int .i64 x.till, .int .i64 x.turn] 65)) := (Below.refl _ W).alloc (Nat.le_refl _) _
      have hrowA := ownR_later hOw la
      have hnews : ∀ j u, [Value.int .u8 x.p, .int .u32 x.s, .int .u32 x.d, .int .u16 x.a, .int .u16 x.b, .int .i64 x.id, .int .i64 x.till, .int .i64 x.turn][j]? = some u → (W.alloc (.cells #[.int .u8 x.p, .int .u32 x.s, .int .u32 x.d, .int .u16 x.a, .int .u16 x.b, .int .i64 x.id, .int .i64 x.till, .int .i64 x.turn] 65)).cell? ((⟨W.heap.size, 0, none⟩ : Addr).add j) = some u := new_row W [Value.int .u8 x.p, .int .u32 x.s, .int .u32 x.d, .int .u16 x.a, .int .u16 x.b, .int .i64 x.id, .int .i64 x.till, .int .i64 x.turn]
      have hbl2 : ∀ r, (Value.slice sa (duR now pre).length cap).ownBlock = some r → ∃ cur, (W.alloc (.cells #[.int .u8 x.p, .int .u32 x.s, .int .u32 x.d, .int .u16 x.a, .int .u16 x.b, .int .i64 x.id, .int .i64 x.till, .int .i64 x.turn] 65)).heap[r]? = some (.cells cur 65 (0, 0)) ∧ w.heap.size + 1 + 1 + 1 ≤ r := fun r hr => by
        rcases hrowA.2 with ⟨e, _⟩ | ⟨g, cp, cur, e, hg, hh, _⟩
        · rw [e] at hr; cases hr
        · rw [e] at hr; cases hr
          exact ⟨cur, hh, hg⟩
      have HNW := hide hnews
      have HRA := hide hrowA
      have HB2 := hide hbl2
      have HDU := hide hdu
      clear hnews hrowA hbl2 hOw hdu
      gi_wp2_with (gi_at_builtin; refine wpListIn_append_own _ rfl (.tmp 21) (.tmp 23) 57 rfl (w.heap.size + 1 + 1 + 1) 65 i0 (.agg #[.int .u8 0, .int .u32 0, .int .u32 0, .int .u16 0, .int .u16 0, .int .i64 0, .int .i64 0, .int .i64 0]) 8 40 Try.underlying57 hi hz0 hz1 hz2 rfl (by decide) _ (duR now pre).length (rws (duR now pre)) rfl HRA.out ⟨W.heap.size, 0, none⟩ 1 1 [Value.int .u8 x.p, .int .u32 x.s, .int .u32 x.d, .int .u16 x.a, .int .u16 x.b, .int .i64 x.id, .int .i64 x.till, .int .i64 x.turn] rfl rfl HNW.out (by intro u hu; simp at hu; rcases hu with rfl | rfl | rfl | rfl | rfl | rfl | rfl | rfl <;> rfl) (by simp only [maxLen]; omega) (by omega) (by simp; omega) ?_; intro v2 W2 hrow2 hg2 hnn; obtain ⟨g2, cp2, rfl⟩ := ownsRow_succ hrow2; have hob2 := (hg2.block (w.heap.size + 1) (by simp; omega) (fun e => by obtain ⟨_, _, h⟩ := HB2.out _ e.symm; omega)).trans ((Below.heap_alloc W _ (w.heap.size + 1) hobl).trans hob); have Kv2 := block_cell hob2; have Fv2 := block_frozen hob2)
      have hkeep : ∀ i o, W.heap[i]? = some o → some i ≠ (Value.slice sa (duR now pre).length cap).ownBlock → i ≠ w.heap.size + 1 → (W2.setCell ⟨w.heap.size + 1, 0, none⟩ (.slice (some ⟨g2, 0, none⟩) ((duR now pre).length + 1) cp2)).heap[i]? = some o := fun i o hi h1 h2 =>
        hset_ne ((hg2.block i (by have := (Array.getElem?_eq_some_iff.1 hi).1; simp; omega) h1).trans ((Below.heap_alloc W _ i (Array.getElem?_eq_some_iff.1 hi).1).trans hi)) h2
      have hsz2 : W.heap.size + 1 ≤ W2.heap.size := by have := hg2.size; simpa using this
      have hown2 : (W2.setCell ⟨w.heap.size + 1, 0, none⟩ (.slice (some ⟨g2, 0, none⟩) ((duR now pre).length + 1) cp2)).ownsRow (w.heap.size + 1 + 1 + 1) 65 8 (.slice (some ⟨g2, 0, none⟩) ((duR now pre).length + 1) cp2) ((duR now pre).length + 1) (rws (duR now pre) ++ rwc x) := by
        refine ⟨hrow2.1, hrow2.2.imp id ?_⟩
        rintro ⟨g, cp, cur, e1, e2, e3, r⟩
        exact ⟨g, cp, cur, e1, e2, hset_ne e3 (by omega), r⟩
      have hbn : Below w.heap.size W (W2.setCell ⟨w.heap.size + 1, 0, none⟩ (.slice (some ⟨g2, 0, none⟩) ((duR now pre).length + 1) cp2)) := ⟨hg2.os, hg2.tape, hg2.output, by simp; omega, fun i hi => by
        cases hh : W.heap[i]? with
        | none => have := Array.getElem?_eq_none_iff.1 hh; omega
        | some o => exact hkeep i o hh (fun e => by obtain ⟨_, _, h⟩ := HB2.out _ e.symm; omega) (by omega)⟩
      refine ⟨⟨by simp; omega, fun i o hi ho hc => hkeep i o ho (fun e => ?_) (by omega)⟩, hbn, ⟨⟨.slice (some ⟨g2, 0, none⟩) ((duR now pre).length + 1) cp2, heap_set1 hob2 0 _, ?_⟩, ?_⟩, hbW.trans hbn⟩
      · obtain ⟨c2, h2, _⟩ := HB2.out i e.symm
        rw [Below.heap_alloc W _ i (Array.getElem?_eq_some_iff.1 ho).1, ho] at h2
        cases h2
        cases hc
      · rw [HDU.out, List.length_append, List.length_singleton, rws_snoc]
        exact hown2
      · exact hkeep _ _ hr0 (fun e => by obtain ⟨_, _, h⟩ := HB2.out _ e.symm; omega) (by omega)
    · have hdu := duR_no (l := pre) htl
      have HDU := hide hdu
      clear hdu
      gi_wp2
      exact ⟨KeepsFrom.refl _ _, Below.refl _ _, ⟨⟨v, hob, by rw [HDU.out]; exact hOw⟩, hr0⟩, hbW⟩
  case done =>
    rintro D xs W hD rfl ⟨⟨⟨v, h1, h2⟩, h3⟩, hbW⟩ hK
    obtain ⟨hl', hS⟩ := hS
    have hbsz := hbW.size
    have K1 := block_cell h1
    have hdl : (duR now (allR ls)).length ≤ 5000 := Nat.le_trans (duR_length now _) hal
    obtain ⟨sa, cap, rfl, hcp, hcm⟩ := (ownR_rd h2).slice
    have HSO := hide (hS _ _ W h2)
    have hnb : ∀ i o, W.heap[i]? = some o → (o.isCells = false ∨ i < w.heap.size + 1 + 1 + 1) → (Value.slice sa (duR now (allR ls)).length cap).ownBlock ≠ some i := fun i o ho hh e => by
      rcases h2.2 with ⟨e2, _⟩ | ⟨g, cp, cur, e2, hg, hgh, _⟩
      · rw [e2] at e; cases e
      · rw [e2] at e
        have e3 : g = i := by simpa [Value.ownBlock] using e
        subst e3
        rcases hh with hh | hh
        · rw [hgh] at ho; cases ho; cases hh
        · omega
    generalize (duR now (allR ls)).length = N at *
    subst hl'
    gi_wp2
    refine ⟨trivial, ?_⟩
    refine (callsIn_wide.2 HSO.out).mono ?_
    rintro e W1 ⟨⟨u, rfl⟩, hr1, hbt1⟩
    have h11 := (hbt1.block _ (Array.getElem?_eq_some_iff.1 h1).1 (hnb _ _ h1 (.inr (by omega)))).trans h1
    have hD1 := (hbt1.block _ (Array.getElem?_eq_some_iff.1 hK).1 (hnb _ _ hK (.inl rfl))).trans hK
    have hb1 : Below w.heap.size w W1 := hbW.trans (hbt1.below hbsz (fun k h e => by
      rcases h2.2 with ⟨e2, _⟩ | ⟨g, cp, cur, e2, hg, hgh, _⟩
      · rw [e2] at e; cases e
      · rw [e2] at e
        have e3 : g = k := by simpa [Value.ownBlock] using e
        omega))
    clear HSO h1 h2 hK hnb h3 K1 hbt1 hS
    have K1 := block_cell h11
    gi_wp2
    obtain ⟨i0, hi, hz0, hz1, hz2⟩ := info_parts info_tupl
    have hmk : (Instr.makeSlice 50 (.int .i64 (l'.length : Int)) (.int .i64 (l'.length : Int))).run Try.prog W1 = .ok (.slice (some ⟨W1.heap.size, 0, none⟩) l'.length l'.length) (W1.alloc (.cells (madeCells (Value.agg #[.int .u8 0, .int .u32 0, .int .u32 0, .int .u16 0, .int .u16 0]).cells (l'.length * 5)) 26)) := by
      have := run_make (P := Try.prog) W1 50 26 i0 _ Try.underlying50 hi hz0 .i64 .i64 (l'.length : Int) (l'.length : Int) (by omega) (by omega) (by rw [hz2]; omega) (by omega)
      rw [hz1] at this
      simpa using this
    have hsz : (madeCells (Value.agg #[.int .u8 0, .int .u32 0, .int .u32 0, .int .u16 0, .int .u16 0]).cells (l'.length * 5)).size = l'.length * 5 := size_madeCells _ _
    rw [hmk]
    clear hmk
    generalize madeCells (Value.agg #[.int .u8 0, .int .u32 0, .int .u32 0, .int .u16 0, .int .u16 0]).cells (l'.length * 5) = mk at *
    have la : Later W1 (W1.alloc (.cells mk 26)) := (Below.refl _ _).alloc (Nat.le_refl _) _
    have hgk := heap_alloc_new W1 (.cells mk 26)
    have hV1 := later_keep la h11
    have hVD := later_keep la hD1
    have hVr := ownR_later hr1 la
    have hbV : Below w.heap.size w (W1.alloc (.cells mk 26)) := hb1.trans (la.mono hb1.size)
    have hgsz := hb1.size
    clear h11 hD1 hr1 hb1 K1
    generalize hgke : W1.heap.size = gk at *
    generalize W1.alloc (.cells mk 26) = V at *
    clear hgke la
    have K1 := block_cell hV1
    gi_wp2
    clear K1
    gi_loopw [32] (fun i wx => ∃ k : Nat, k ≤ l'.length ∧ i = .int .i64 (k : Int) ∧ But (fun g => g = gk) V wx ∧ ∃ rest : List Value, rest.length = (l'.length - k) * 5 ∧ wx.heap[gk]? = some (.cells (rks (l'.take k) ++ rest).toArray 26 (0, 0))) (fun i _ => l'.length - (intOf i).toNat)
    case atStart => exact ⟨0, by omega, rfl, But.refl _ _, mk.toList, by simpa using hsz, by simpa [rks] using hgk⟩
    case round =>
      obtain ⟨k, hk, rfl, hbk, rest, hrl, hgw⟩ := hrel
      by_cases hkl : k < l'.length
      · have hRw : RdR wr.heap.size wr (.slice sa l'.length cap) l' := by
          refine ownR_rd (base := w.heap.size + 1 + 1 + 1) ⟨hVr.1, hVr.2.imp id ?_⟩
          rintro ⟨g, cp, cur, e1, e2, e3, r⟩
          exact ⟨g, cp, cur, e1, e2, (hbk.block g (Array.getElem?_eq_some_iff.1 e3).1 (fun e => by rw [e, hgk] at e3; cases e3)).trans e3, r⟩
        obtain ⟨g, off, cp, e, _, _, hgn, hcs⟩ := hRw.cells (by omega)
        simp at e
        obtain ⟨rfl, rfl⟩ := e
        have c0 := hcs k hkl 0 (by omega)
        have c1 := hcs k hkl 1 (by omega)
        have c2 := hcs k hkl 2 (by omega)
        have c3 := hcs k hkl 3 (by omega)
        have c4 := hcs k hkl 4 (by omega)
        have c5 := hcs k hkl 5 (by omega)
        have c6 := hcs k hkl 6 (by omega)
        have c7 := hcs k hkl 7 (by omega)
        have hkl' : (k : Int) < l'.length := by omega
        have htk : rks (l'.take (k + 1)) = rks (l'.take k) ++ rwk l'[k] := by rw [← List.take_append_getElem hkl, rks_snoc]
        have hrk : (rks (l'.take k)).length = k * 5 := by rw [rks_length, List.length_take, Nat.min_eq_left hk]
        obtain ⟨r0, r1, r2, r3, r4, rest', rfl⟩ : ∃ r0 r1 r2 r3 r4 rest', rest = r0 :: r1 :: r2 :: r3 :: r4 :: rest' := by
          have h5 : 5 ≤ rest.length := by rw [hrl]; omega
          match rest, h5 with
          | r0 :: r1 :: r2 :: r3 :: r4 :: rest', _ => exact ⟨_, _, _, _, _, _, rfl⟩
        have hk5 : ∀ j, wr.cell? ⟨gk, k * 5 + j, none⟩ = (r0 :: r1 :: r2 :: r3 :: r4 :: rest')[j]? := fun j => by
          rw [block_cell hgw, List.getElem?_toArray, List.getElem?_append_right (by omega), hrk, Nat.add_sub_cancel_left]
        have d0 := hk5 0
        have d1 := hk5 1
        have d2 := hk5 2
        have d3 := hk5 3
        have d4 := hk5 4
        have Fg := block_frozen hgw
        have hgl : gk < wr.heap.size := (Array.getElem?_eq_some_iff.1 hgw).1
        clear hcs hk5
        generalize hgo : l'[k] = r at *
        have hpt : (putRow wr gk (k * 5) (rwk r)).heap[gk]? = some (.cells (rks (l'.take k) ++ (rwk r ++ rest')).toArray 26 (0, 0)) := by
          have := putRow_mid (rwk r) (rks (l'.take k)) [r0, r1, r2, r3, r4] rest' wr hgw rfl
          rw [hrk] at this
          exact this
        have hpb : But (fun g => g = gk) V (putRow wr gk (k * 5) (rwk r)) := putRow_but (E := fun g => g = gk) rfl _ _ _ _ hbk
        have HPT := hide hpt
        have HPB := hide hpb
        clear hpt hpb
        have HTK := hide htk
        have HRK := hide hrk
        have HRL := hide hrl
        clear hgo htk hrk hrl
        simp only [rwc, List.getElem?_cons_zero, List.getElem?_cons_succ, Nat.add_zero] at c0 c1 c2 c3 c4 c5 c6 c7 d0 d1 d2 d3 d4
        gi_wp2
        go_roundw
        case rel =>
          refine ⟨k + 1, by omega, by go_num, (show But _ V (putRow wr gk (k * 5) (rwk r)) from HPB.out).trans (But.of ((Below.refl _ _).alloc (Nat.le_refl _) _)), rest', ?_, ?_⟩
          · have := HRL.out
            simp at this
            omega
          · rw [HTK.out, List.append_assoc]
            exact (Below.heap_alloc (putRow wr gk (k * 5) (rwk r)) _ gk (Array.getElem?_eq_some_iff.1 HPT.out).1).trans HPT.out
        case measure => simp [intOf]; omega
      · obtain rfl : k = l'.length := by omega
        have hrD : wr.heap[D]? = some (.deferred (some [])) := (hbk.block D (Array.getElem?_eq_some_iff.1 hVD).1 (fun e => by rw [e, hgk] at hVD; cases hVD)).trans hVD
        obtain rfl : rest = [] := List.length_eq_zero_iff.1 (by rw [hrl]; simp)
        rw [List.take_length, List.append_nil] at hgw
        have hbw : Below w.heap.size w wr := hbV.trans (hbk.below hbV.size (fun k h e => by omega))
        gi_wp2
        refine ⟨by simp, .inl ⟨_, _, rfl, run_takeDeferred hrD, ?_⟩⟩
        exact ⟨.slice (some ⟨gk, 0, none⟩) l'.length l'.length, by simp [results, Try.results19, go_sem], hbw.trans (belowK_b (w := w) (Nat.le_refl _) wr D _ _ (by omega) hrD rfl rfl), gk, rfl, by omega, (CT.put (o' := .deferred none) hrD rfl).2 _ _ hgw rfl⟩
  case stop =>
    rintro D pre W hD hSp hF hK
    exact hF.elim
end Go.Proofs.Ytahphjindjlcpaa
