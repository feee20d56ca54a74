/- Several texts in one. -/
import Derived.Test.YtahphjindjlcpaaZS
import Derived.Test.YtahphjindjlcpaaX3
import Derived.Test.YtahphjindjlcpaaRows
import Derived.ProofKit
import Derived.OpenShut
import Derived.Lib.SmallJoins
import Derived.ChangeSlices
import Derived.Test.YtahphjindjlcpaaHd
import Derived.Test.YtahphjindjlcpaaBM
import Derived.Test.YtahphjindjlcpaaKK
import Derived.Laws.Closers25b
/- Package table: sorting any number of rows; how many are due. -/
namespace Go.Proofs.Ytahphjindjlcpaa
open Go.RowKit Go.Shelf
set_option maxRecDepth 100000
attribute [local go_sem] Oper.semAt_some
set_option linter.unusedVariables false
set_option linter.unusedSimpArgs false

/-- Sorting rows leaves as many. -/
def SortsLen (l : List Rw) : Prop := ∀ (base : Nat) (v : Value) (W : World), W.ownsRow base 65 8 v l.length (rws l) →
  Calls Try.prog 40 #[v, .func (.func 41) #[] #[]] W fun e W' => (∃ u, e = .returned u) ∧ ∃ l' : List Rw, l'.length = l.length ∧ W'.ownsRow base 65 8 v l.length (rws l') ∧ But (fun g => v.ownBlock = some g) W W'

theorem ltOf_ordv (x y : Rw) : ltOf ordv x y = ltR x y := rfl
theorem swo_ordv : Go.Sort.SWO (ltOf ordv) where
  irrefl x := by rw [ltOf_ordv, ltR_false]; omega
  trans x y z h1 h2 := by rw [ltOf_ordv, ltR_iff] at *; omega
  ntrans x y z h1 h2 := by rw [ltOf_ordv, ltR_false] at *; omega

theorem flat_at [Inhabited Rw] (d : List Rw) (j : Nat) (hj : j < d.length * 8) : some ((Go.Sort.flatK rwc 8 d.toArray)[j]!) = (rws d)[j]? := by
  rw [Go.Sort.get_flatK rwc 8 d.toArray j (by simpa using hj)]
  have h1 : j / 8 < d.length := by omega
  have h2 : j % 8 < 8 := by omega
  have e := rws_at d (j / 8) (j % 8) h1 h2
  rw [show j / 8 * 8 + j % 8 = j from by omega] at e
  rw [e, getElem!_pos d.toArray (j / 8) (by simpa using h1), List.getElem_toArray]
  have h3 : j % 8 < (rwc d[j / 8]).length := h2
  rw [List.getElem?_eq_getElem h3]
  congr 1
  exact getElem!_pos (rwc d[j / 8]) (j % 8) h3

theorem sorts_len0 [Inhabited Rw] (l : List Rw) (hl : l.length < 4611686018427387904) : SortsLen l := fun base v W hv => by
  by_cases h1 : l.length ≤ 1
  · obtain ⟨a, cap, rfl, _, _⟩ := (ownR_rd hv).slice
    refine (sort_one a l.length cap _ W h1).mono ?_
    rintro e W' ⟨hu, rfl⟩
    exact ⟨hu, l, rfl, hv, But.refl _ _⟩
  · have hv0 := hv
    obtain ⟨q1, ⟨_, q2⟩ | ⟨g, cap, cur, rfl, hg, hh, hlc, hm, hs, hc⟩⟩ := hv
    · omega
    · have hcell : ∀ j, j < l.length * 8 → cur[j]? = (rws l)[j]? := fun j hj => by
        rw [← hc, List.getElem?_take_of_lt hj]
        simp
      have hH : Go.Sort.HoldsK rwc 8 W g 0 l.toArray := fun j hj => by
        have hj' : j < l.length * 8 := by simpa using hj
        refine ⟨?_, block_frozen hh _⟩
        rw [Nat.zero_add, block_cell hh, hcell j hj', ← flat_at l j hj']
        rfl
      have eg : ∀ args w, (callFunc 41 args).run Try.prog w = .ok (.enter 41 args) w := enters_of Try.func41 (by kernel_rfl) rfl
      have hcon := AnyQ.slices_SortFunc sortL 8 Try.isAgg65 Try.sizeOf65 rwc (fun _ => rfl) (fun x v hv => by simp only [rwc, List.mem_cons, List.not_mem_nil, or_false] at hv; rcases hv with rfl | rfl | rfl | rfl | rfl | rfl | rfl | rfl <;> rfl) ordv swo_ordv 41 #[] g 0 cap l.toArray W eg (fun _ _ _ _ x y => inOrder_grow x y _) hH (Array.getElem?_eq_some_iff.1 hh).1 (by simpa using hl)
      change Calls Try.prog 40 _ _ _ at hcon
      have hcon2 : Calls Try.prog 40 #[.slice (some ⟨g, 0, none⟩) l.length cap, .func (.func 41) #[] #[]] W _ := hcon
      refine hcon2.mono ?_
      rintro e W' ⟨rfl, d', n, os, hp, _, rfl⟩
      have hd : d'.toList.length = l.length := by simpa using hp.1
      refine ⟨⟨_, rfl⟩, d'.toList, hd, ?_, ?_⟩
      · refine ⟨by rw [rws_length, hd], .inr ⟨g, cap, Go.Sort.putCells id 0 (Go.Sort.flatK rwc 8 d') cur, rfl, hg, ?_, hlc, hm, by simpa [Go.Sort.putCells] using hs, ?_⟩⟩
        · show ((W.heap.modify g (Go.Sort.onCells (Go.Sort.putCells id 0 (Go.Sort.flatK rwc 8 d')))) ++ os)[g]? = _
          rw [Array.getElem?_append_left (by simpa using (Array.getElem?_eq_some_iff.1 hh).1), Array.getElem?_modify, if_pos rfl, hh]
          rfl
        · apply List.ext_getElem?
          intro j
          by_cases hj : j < l.length * 8
          · rw [List.getElem?_take_of_lt hj]
            have hcj := hcell j hj
            have e1 := flat_at d'.toList j (by rw [hd]; exact hj)
            rw [Array.toArray_toList] at e1
            have hlt : j < (rws l).length := by rw [rws_length]; exact hj
            rw [List.getElem?_eq_getElem hlt] at hcj
            rw [← e1, Array.getElem?_toList]
            unfold Go.Sort.putCells
            rw [Array.getElem?_mapIdx, hcj, Option.map_some, if_pos ⟨by omega, by simp [hp.1]; omega⟩, Nat.sub_zero]
            rfl
          · rw [List.getElem?_eq_none (by simp; omega), List.getElem?_eq_none (by rw [rws_length, hd]; omega)]
      · refine ⟨rfl, rfl, rfl, ?_, fun i hi he => ?_⟩
        · show W.heap.size ≤ ((W.heap.modify g (Go.Sort.onCells (Go.Sort.putCells id 0 (Go.Sort.flatK rwc 8 d')))) ++ os).size
          simp
        · show ((W.heap.modify g (Go.Sort.onCells (Go.Sort.putCells id 0 (Go.Sort.flatK rwc 8 d')))) ++ os)[i]? = _
          rw [Array.getElem?_append_left (by simpa using hi), Array.getElem?_modify, if_neg (fun e => he (by rw [← e]; rfl))]

theorem sorts_len (l : List Rw) (hl : l.length < 4611686018427387904) : SortsLen l := @sorts_len0 ⟨⟨0, 0, 0, 0, 0, 0, 0, 0⟩⟩ l hl

set_option maxRecDepth 100000 in
set_option maxHeartbeats 4000000 in
theorem due_len (base bt : Nat) (lim cnt trn now : Int) (ls : Nat → List Rw) (w : World) (hT : TB base w bt lim cnt trn ls) (hS : SortsLen (duR now (allR ls))) (hal : (allR ls).length ≤ 5000) :
    Calls Try.prog 19 #[.pointer (some ⟨bt, 0, none⟩), .int .i64 now] w fun e w' => Below w.heap.size w w' ∧ ∃ g, e = .returned (.slice (some ⟨g, 0, none⟩) (duR now (allR ls)).length (duR now (allR ls)).length) := by
  obtain ⟨vs, hT⟩ := hT
  refine (callsIn_wide (n := 5)).1 ?_
  refine callsIn_of_wp_marks Try.func19 rfl trivial ?_ rfl
  simp only [Try.ntmps19, List.size_toArray, List.length_cons, List.length_nil, Nat.reduceAdd, Nat.reduceSub, Array.replicate_succ, Array.replicate_zero, List.push_toArray, List.append_toArray, List.nil_append, List.cons_append]
  have hb4 : Later w (((w.alloc (.cells #[.int .i64 now] 3)).alloc (.cells #[.slice none 0 0] 57)).alloc (.cells #[.pointer (some ⟨bt, 3, none⟩)] 66)) := (((Below.refl _ _).alloc (Nat.le_refl _) _).alloc (by simp) _).alloc (by simp <;> omega) _
  have c0 : (((w.alloc (.cells #[.int .i64 now] 3)).alloc (.cells #[.slice none 0 0] 57)).alloc (.cells #[.pointer (some ⟨bt, 3, none⟩)] 66)).heap[w.heap.size]? = some (.cells #[.int .i64 now] 3) := (Below.heap_alloc _ _ _ (by simp <;> omega)).trans ((Below.heap_alloc _ _ _ (by simp)).trans (heap_alloc_new w _))
  have c1 : (((w.alloc (.cells #[.int .i64 now] 3)).alloc (.cells #[.slice none 0 0] 57)).alloc (.cells #[.pointer (some ⟨bt, 3, none⟩)] 66)).heap[w.heap.size + 1]? = some (.cells #[.slice none 0 0] 57) := by
    have := heap_alloc_new (w.alloc (.cells #[.int .i64 now] 3)) (.cells #[.slice none 0 0] 57)
    rw [World.size_alloc] at this
    exact (Below.heap_alloc _ _ _ (by simp)).trans this
  have c2 : (((w.alloc (.cells #[.int .i64 now] 3)).alloc (.cells #[.slice none 0 0] 57)).alloc (.cells #[.pointer (some ⟨bt, 3, none⟩)] 66)).heap[w.heap.size + 1 + 1]? = some (.cells #[.pointer (some ⟨bt, 3, none⟩)] 66) := by
    have := heap_alloc_new ((w.alloc (.cells #[.int .i64 now] 3)).alloc (.cells #[.slice none 0 0] 57)) (.cells #[.pointer (some ⟨bt, 3, none⟩)] 66)
    simpa only [World.size_alloc] using this
  have hs4 : (((w.alloc (.cells #[.int .i64 now] 3)).alloc (.cells #[.slice none 0 0] 57)).alloc (.cells #[.pointer (some ⟨bt, 3, none⟩)] 66)).heap.size = w.heap.size + 1 + 1 + 1 := by simp
  have C0 := hide c0
  have C1 := hide c1
  have C2 := hide c2
  have HS4 := hide hs4
  clear c0 c1 c2 hs4
  gi_wp2_with (refine ⟨trivial, ?_⟩; gi_at_call 39; refine (all_in _ _ _).mono ?_; rintro e w' ⟨rfl, rfl⟩)
  generalize ((w.alloc (.cells #[.int .i64 now] 3)).alloc (.cells #[.slice none 0 0] 57)).alloc (.cells #[.pointer (some ⟨bt, 3, none⟩)] 66) = w4 at *
  have hs4 : w4.heap.size = w.heap.size + 1 + 1 + 1 := HS4.out
  refine wpIn_rangeX (w := w4) rfl (by omega) (gf := 51) (lb := #[.pointer (some ⟨w.heap.size + 1 + 1, 0, none⟩)]) rfl trivial (enters_of Try.func51 (by kernel_rfl) rfl)
    (all_gen 4 (by omega) (w.heap.size + 1 + 1) bt w.heap.size base lim cnt trn vs ls w w4 hT rfl hb4 (by omega) (block_cell C2.out 0))
    (fun h k => h.trans k) (fun W l o o' hl ho hc hw => belowK_b (w := w4) (by omega) W l o o' hl ho hc hw) (fun hA hL => hL.mono (by omega)) (fun _ _ _ _ h _ => h) (fun _ _ _ _ _ _ _ _ _ h => h) (fun _ => rfl)
    (fun pre W => PD w.heap.size (w.heap.size + 1 + 1 + 1) now pre W ∧ Below w.heap.size w W) (fun pre W => False)
    (OwnFrom.and (fun s A B row hs hg hr => hs.ct (CT.row hg (fun r e => (hr r e).2))) (ownFrom_below (Nat.le_refl _) (by omega)))
    (fun s A B h l => ⟨h.1.ct (CT.of l), h.2.trans (l.mono h.2.size)⟩)
    (fun s A B row hs hg hr => hs)
    ⟨⟨⟨.slice none 0 0, C1.out, rfl, .inl ⟨rfl, rfl⟩⟩, C0.out⟩, hb4⟩
    (fun x a' W => ∃ bx : Nat, w.heap.size + 1 + 1 + 1 ≤ bx ∧ W.heap[bx]? = some (.cells #[.int .u8 x.p, .int .u32 x.s, .int .u32 x.d, .int .u16 x.a, .int .u16 x.b, .int .i64 x.id, .int .i64 x.till, .int .i64 x.turn] 65 (0, 0)) ∧ a' = { tmps := #[.pointer (some ⟨bt, 0, none⟩), .int .i64 now, undef, .pointer (some ⟨w.heap.size, 0, none⟩), .slice none 0 0, .pointer (some ⟨w.heap.size + 1, 0, none⟩), .pointer (some ⟨bx, 0, none⟩), undef, undef, undef, .pointer (some ⟨bt, 0, none⟩), .bool false, .pointer (some ⟨bt, 0, none⟩), .pointer (some ⟨bt, 0, none⟩), .pointer (some ⟨bt, 3, none⟩), .func (.func 51) #[] #[.pointer (some ⟨w.heap.size + 1 + 1, 0, none⟩)], .agg #[.int .u8 x.p, .int .u32 x.s, .int .u32 x.d, .int .u16 x.a, .int .u16 x.b, .int .i64 x.id, .int .i64 x.till, .int .i64 x.turn], undef, undef, undef, undef, undef, undef, undef, undef, undef, undef, undef, undef, undef, undef, undef, undef, undef, undef, undef, undef, undef, undef, undef, undef, undef, undef, undef], defers := [] })
    (fun x a' W l o o' hl ho hc h => by obtain ⟨bx, h1, h2, h3⟩ := h; exact ⟨bx, h1, (CT.put ho hc).2 _ _ h2 rfl, h3⟩) ?assign ?body ?done ?stop
  case assign =>
    rintro l pre x W K hsz _ hX hK
    dsimp only [encR, rwc]
    gi_wp2
    refine hK _ _ ?_ ⟨W.heap.size, by omega, heap_alloc_new _ _, rfl⟩
    exact (Below.refl _ W).alloc (Nat.le_refl _) _
  case body =>
    rintro l pre x a' W ⟨⟨⟨v, hob, hOw⟩, hr0⟩, hbW⟩ hX ⟨bx, hbx, hbo, rfl⟩
    have hbsz := hbW.size
    have Kb := block_cell hbo
    have Kn := block_cell hr0
    have hobl := (Array.getElem?_eq_some_iff.1 hob).1
    have hbl := (Array.getElem?_eq_some_iff.1 hbo).1
    have hal2 : pre.length ≤ 5000 := by obtain ⟨rest, e⟩ := hX; have := congrArg List.length e; simp at this; omega
    by_cases htl : x.till ≤ now
    · have hdu := duR_yes (l := pre) htl
      have hdl : (duR now pre).length ≤ 5000 := Nat.le_trans (duR_length now pre) hal2
      have Kv := block_cell hob
      have Fv := block_frozen hob
      obtain ⟨sa, cap, rfl, _, _⟩ := (ownR_rd hOw).slice
      obtain ⟨i0, hi, hz0, hz1, hz2⟩ := info_parts info_row
      have la : Later W (W.alloc (.cells #[.int .u8 x.p, .int .u32 x.s, .int .u32 x.d, .int .u16 x.a, .int .u16 x.b, .int .i64 x.id, .int .i64 x.till, .int .i64 x.turn] 65)) := (Below.refl _ W).alloc (Nat.le_refl _) _
      have hrowA := ownR_later hOw la
      have hnews : ∀ j u, [Value.int .u8 x.p, .int .u32 x.s, .int .u32 x.d, .int .u16 x.a, .int .u16 x.b, .int .i64 x.id, .int .i64 x.till, .int .i64 x.turn][j]? = some u → (W.alloc (.cells #[.int .u8 x.p, .int .u32 x.s, .int .u32 x.d, .int .u16 x.a, .int .u16 x.b, .int .i64 x.id, .int .i64 x.till, .int .i64 x.turn] 65)).cell? ((⟨W.heap.size, 0, none⟩ : Addr).add j) = some u := new_row W [Value.int .u8 x.p, .int .u32 x.s, .int .u32 x.d, .int .u16 x.a, .int .u16 x.b, .int .i64 x.id, .int .i64 x.till, .int .i64 x.turn]
      have hbl2 : ∀ r, (Value.slice sa (duR now pre).length cap).ownBlock = some r → ∃ cur, (W.alloc (.cells #[.int .u8 x.p, .int .u32 x.s, .int .u32 x.d, .int .u16 x.a, .int .u16 x.b, .int .i64 x.id, .int .i64 x.till, .int .i64 x.turn] 65)).heap[r]? = some (.cells cur 65 (0, 0)) ∧ w.heap.size + 1 + 1 + 1 ≤ r := fun r hr => by
        rcases hrowA.2 with ⟨e, _⟩ | ⟨g, cp, cur, e, hg, hh, _⟩
        · rw [e] at hr; cases hr
        · rw [e] at hr; cases hr
          exact ⟨cur, hh, hg⟩
      have HNW := hide hnews
      have HRA := hide hrowA
      have HB2 := hide hbl2
      have HDU := hide hdu
      clear hnews hrowA hbl2 hOw hdu
      gi_wp2_with (gi_at_builtin; refine wpListIn_append_own _ rfl (.tmp 21) (.tmp 23) 57 rfl (w.heap.size + 1 + 1 + 1) 65 i0 (.agg #[.int .u8 0, .int .u32 0, .int .u32 0, .int .u16 0, .int .u16 0, .int .i64 0, .int .i64 0, .int .i64 0]) 8 40 Try.underlying57 hi hz0 hz1 hz2 rfl (by decide) _ (duR now pre).length (rws (duR now pre)) rfl HRA.out ⟨W.heap.size, 0, none⟩ 1 1 [Value.int .u8 x.p, .int .u32 x.s, .int .u32 x.d, .int .u16 x.a, .int .u16 x.b, .int .i64 x.id, .int .i64 x.till, .int .i64 x.turn] rfl rfl HNW.out (by intro u hu; simp at hu; rcases hu with rfl | rfl | rfl | rfl | rfl | rfl | rfl | rfl <;> rfl) (by simp only [maxLen]; omega) (by omega) (by simp; omega) ?_; intro v2 W2 hrow2 hg2 hnn; obtain ⟨g2, cp2, rfl⟩ := ownsRow_succ hrow2; have hob2 := (hg2.block (w.heap.size + 1) (by simp; omega) (fun e => by obtain ⟨_, _, h⟩ := HB2.out _ e.symm; omega)).trans ((Below.heap_alloc W _ (w.heap.size + 1) hobl).trans hob); have Kv2 := block_cell hob2; have Fv2 := block_frozen hob2)
      have hkeep : ∀ i o, W.heap[i]? = some o → some i ≠ (Value.slice sa (duR now pre).length cap).ownBlock → i ≠ w.heap.size + 1 → (W2.setCell ⟨w.heap.size + 1, 0, none⟩ (.slice (some ⟨g2, 0, none⟩) ((duR now pre).length + 1) cp2)).heap[i]? = some o := fun i o hi h1 h2 =>
        hset_ne ((hg2.block i (by have := (Array.getElem?_eq_some_iff.1 hi).1; simp; omega) h1).trans ((Below.heap_alloc W _ i (Array.getElem?_eq_some_iff.1 hi).1).trans hi)) h2
      have hsz2 : W.heap.size + 1 ≤ W2.heap.size := by have := hg2.size; simpa using this
      have hown2 : (W2.setCell ⟨w.heap.size + 1, 0, none⟩ (.slice (some ⟨g2, 0, none⟩) ((duR now pre).length + 1) cp2)).ownsRow (w.heap.size + 1 + 1 + 1) 65 8 (.slice (some ⟨g2, 0, none⟩) ((duR now pre).length + 1) cp2) ((duR now pre).length + 1) (rws (duR now pre) ++ rwc x) := by
        refine ⟨hrow2.1, hrow2.2.imp id ?_⟩
        rintro ⟨g, cp, cur, e1, e2, e3, r⟩
        exact ⟨g, cp, cur, e1, e2, hset_ne e3 (by omega), r⟩
      have hbn : Below w.heap.size W (W2.setCell ⟨w.heap.size + 1, 0, none⟩ (.slice (some ⟨g2, 0, none⟩) ((duR now pre).length + 1) cp2)) := ⟨hg2.os, hg2.tape, hg2.output, by simp; omega, fun i hi => by
        cases hh : W.heap[i]? with
        | none => have := Array.getElem?_eq_none_iff.1 hh; omega
        | some o => exact hkeep i o hh (fun e => by obtain ⟨_, _, h⟩ := HB2.out _ e.symm; omega) (by omega)⟩
      refine ⟨⟨by simp; omega, fun i o hi ho hc => hkeep i o ho (fun e => ?_) (by omega)⟩, hbn, ⟨⟨.slice (some ⟨g2, 0, none⟩) ((duR now pre).length + 1) cp2, heap_set1 hob2 0 _, ?_⟩, ?_⟩, hbW.trans hbn⟩
      · obtain ⟨c2, h2, _⟩ := HB2.out i e.symm
        rw [Below.heap_alloc W _ i (Array.getElem?_eq_some_iff.1 ho).1, ho] at h2
        cases h2
        cases hc
      · rw [HDU.out, List.length_append, List.length_singleton, rws_snoc]
        exact hown2
      · exact hkeep _ _ hr0 (fun e => by obtain ⟨_, _, h⟩ := HB2.out _ e.symm; omega) (by omega)
    · have hdu := duR_no (l := pre) htl
      have HDU := hide hdu
      clear hdu
      gi_wp2
      exact ⟨KeepsFrom.refl _ _, Below.refl _ _, ⟨⟨v, hob, by rw [HDU.out]; exact hOw⟩, hr0⟩, hbW⟩
  case done =>
    rintro D xs W hD rfl ⟨⟨⟨v, h1, h2⟩, h3⟩, hbW⟩ hK
    have hbsz := hbW.size
    have K1 := block_cell h1
    have hdl : (duR now (allR ls)).length ≤ 5000 := Nat.le_trans (duR_length now _) hal
    obtain ⟨sa, cap, rfl, hcp, hcm⟩ := (ownR_rd h2).slice
    have HSO := hide (hS _ _ W h2)
    have hnb : ∀ i o, W.heap[i]? = some o → (o.isCells = false ∨ i < w.heap.size + 1 + 1 + 1) → (Value.slice sa (duR now (allR ls)).length cap).ownBlock ≠ some i := fun i o ho hh e => by
      rcases h2.2 with ⟨e2, _⟩ | ⟨g, cp, cur, e2, hg, hgh, _⟩
      · rw [e2] at e; cases e
      · rw [e2] at e
        have e3 : g = i := by simpa [Value.ownBlock] using e
        subst e3
        rcases hh with hh | hh
        · rw [hgh] at ho; cases ho; cases hh
        · omega
    generalize hNE : (duR now (allR ls)).length = N at *
    have HNE := hide hNE
    clear hNE
    gi_wp2
    refine ⟨trivial, ?_⟩
    refine (callsIn_wide.2 HSO.out).mono ?_
    rintro e W1 ⟨⟨u, rfl⟩, l', hl', hr1, hbt1⟩
    subst hl'
    have h11 := (hbt1.block _ (Array.getElem?_eq_some_iff.1 h1).1 (hnb _ _ h1 (.inr (by omega)))).trans h1
    have hD1 := (hbt1.block _ (Array.getElem?_eq_some_iff.1 hK).1 (hnb _ _ hK (.inl rfl))).trans hK
    have hb1 : Below w.heap.size w W1 := hbW.trans (hbt1.below hbsz (fun k h e => by
      rcases h2.2 with ⟨e2, _⟩ | ⟨g, cp, cur, e2, hg, hgh, _⟩
      · rw [e2] at e; cases e
      · rw [e2] at e
        have e3 : g = k := by simpa [Value.ownBlock] using e
        omega))
    clear HSO h1 h2 hK hnb h3 K1 hbt1 hS
    have K1 := block_cell h11
    gi_wp2
    obtain ⟨i0, hi, hz0, hz1, hz2⟩ := info_parts info_tupl
    have hmk : (Instr.makeSlice 50 (.int .i64 (l'.length : Int)) (.int .i64 (l'.length : Int))).run Try.prog W1 = .ok (.slice (some ⟨W1.heap.size, 0, none⟩) l'.length l'.length) (W1.alloc (.cells (madeCells (Value.agg #[.int .u8 0, .int .u32 0, .int .u32 0, .int .u16 0, .int .u16 0]).cells (l'.length * 5)) 26)) := by
      have := run_make (P := Try.prog) W1 50 26 i0 _ Try.underlying50 hi hz0 .i64 .i64 (l'.length : Int) (l'.length : Int) (by omega) (by omega) (by rw [hz2]; omega) (by omega)
      rw [hz1] at this
      simpa using this
    have hsz : (madeCells (Value.agg #[.int .u8 0, .int .u32 0, .int .u32 0, .int .u16 0, .int .u16 0]).cells (l'.length * 5)).size = l'.length * 5 := size_madeCells _ _
    rw [hmk]
    clear hmk
    generalize madeCells (Value.agg #[.int .u8 0, .int .u32 0, .int .u32 0, .int .u16 0, .int .u16 0]).cells (l'.length * 5) = mk at *
    have la : Later W1 (W1.alloc (.cells mk 26)) := (Below.refl _ _).alloc (Nat.le_refl _) _
    have hgk := heap_alloc_new W1 (.cells mk 26)
    have hV1 := later_keep la h11
    have hVD := later_keep la hD1
    have hVr := ownR_later hr1 la
    have hbV : Below w.heap.size w (W1.alloc (.cells mk 26)) := hb1.trans (la.mono hb1.size)
    have hgsz := hb1.size
    clear h11 hD1 hr1 hb1 K1
    generalize hgke : W1.heap.size = gk at *
    generalize W1.alloc (.cells mk 26) = V at *
    clear hgke la
    have K1 := block_cell hV1
    gi_wp2
    clear K1
    gi_loopw [32] (fun i wx => ∃ k : Nat, k ≤ l'.length ∧ i = .int .i64 (k : Int) ∧ But (fun g => g = gk) V wx ∧ ∃ rest : List Value, rest.length = (l'.length - k) * 5 ∧ wx.heap[gk]? = some (.cells (rks (l'.take k) ++ rest).toArray 26 (0, 0))) (fun i _ => l'.length - (intOf i).toNat)
    case atStart => exact ⟨0, by omega, rfl, But.refl _ _, mk.toList, by simpa using hsz, by simpa [rks] using hgk⟩
    case round =>
      obtain ⟨k, hk, rfl, hbk, rest, hrl, hgw⟩ := hrel
      by_cases hkl : k < l'.length
      · have hRw : RdR wr.heap.size wr (.slice sa l'.length cap) l' := by
          refine ownR_rd (base := w.heap.size + 1 + 1 + 1) ⟨hVr.1, hVr.2.imp id ?_⟩
          rintro ⟨g, cp, cur, e1, e2, e3, r⟩
          exact ⟨g, cp, cur, e1, e2, (hbk.block g (Array.getElem?_eq_some_iff.1 e3).1 (fun e => by rw [e, hgk] at e3; cases e3)).trans e3, r⟩
        obtain ⟨g, off, cp, e, _, _, hgn, hcs⟩ := hRw.cells (by omega)
        simp at e
        obtain ⟨rfl, rfl⟩ := e
        have c0 := hcs k hkl 0 (by omega)
        have c1 := hcs k hkl 1 (by omega)
        have c2 := hcs k hkl 2 (by omega)
        have c3 := hcs k hkl 3 (by omega)
        have c4 := hcs k hkl 4 (by omega)
        have c5 := hcs k hkl 5 (by omega)
        have c6 := hcs k hkl 6 (by omega)
        have c7 := hcs k hkl 7 (by omega)
        have hkl' : (k : Int) < l'.length := by omega
        have htk : rks (l'.take (k + 1)) = rks (l'.take k) ++ rwk l'[k] := by rw [← List.take_append_getElem hkl, rks_snoc]
        have hrk : (rks (l'.take k)).length = k * 5 := by rw [rks_length, List.length_take, Nat.min_eq_left hk]
        obtain ⟨r0, r1, r2, r3, r4, rest', rfl⟩ : ∃ r0 r1 r2 r3 r4 rest', rest = r0 :: r1 :: r2 :: r3 :: r4 :: rest' := by
          have h5 : 5 ≤ rest.length := by rw [hrl]; omega
          match rest, h5 with
          | r0 :: r1 :: r2 :: r3 :: r4 :: rest', _ => exact ⟨_, _, _, _, _, _, rfl⟩
        have hk5 : ∀ j, wr.cell? ⟨gk, k * 5 + j, none⟩ = (r0 :: r1 :: r2 :: r3 :: r4 :: rest')[j]? := fun j => by
          rw [block_cell hgw, List.getElem?_toArray, List.getElem?_append_right (by omega), hrk, Nat.add_sub_cancel_left]
        have d0 := hk5 0
        have d1 := hk5 1
        have d2 := hk5 2
        have d3 := hk5 3
        have d4 := hk5 4
        have Fg := block_frozen hgw
        have hgl : gk < wr.heap.size := (Array.getElem?_eq_some_iff.1 hgw).1
        clear hcs hk5
        generalize hgo : l'[k] = r at *
        have hpt : (putRow wr gk (k * 5) (rwk r)).heap[gk]? = some (.cells (rks (l'.take k) ++ (rwk r ++ rest')).toArray 26 (0, 0)) := by
          have := putRow_mid (rwk r) (rks (l'.take k)) [r0, r1, r2, r3, r4] rest' wr hgw rfl
          rw [hrk] at this
          exact this
        have hpb : But (fun g => g = gk) V (putRow wr gk (k * 5) (rwk r)) := putRow_but (E := fun g => g = gk) rfl _ _ _ _ hbk
        have HPT := hide hpt
        have HPB := hide hpb
        clear hpt hpb
        have HTK := hide htk
        have HRK := hide hrk
        have HRL := hide hrl
        clear hgo htk hrk hrl
        simp only [rwc, List.getElem?_cons_zero, List.getElem?_cons_succ, Nat.add_zero] at c0 c1 c2 c3 c4 c5 c6 c7 d0 d1 d2 d3 d4
        gi_wp2
        go_roundw
        case rel =>
          refine ⟨k + 1, by omega, by go_num, (show But _ V (putRow wr gk (k * 5) (rwk r)) from HPB.out).trans (But.of ((Below.refl _ _).alloc (Nat.le_refl _) _)), rest', ?_, ?_⟩
          · have := HRL.out
            simp at this
            omega
          · rw [HTK.out, List.append_assoc]
            exact (Below.heap_alloc (putRow wr gk (k * 5) (rwk r)) _ gk (Array.getElem?_eq_some_iff.1 HPT.out).1).trans HPT.out
        case measure => simp [intOf]; omega
      · obtain rfl : k = l'.length := by omega
        have hrD : wr.heap[D]? = some (.deferred (some [])) := (hbk.block D (Array.getElem?_eq_some_iff.1 hVD).1 (fun e => by rw [e, hgk] at hVD; cases hVD)).trans hVD
        obtain rfl : rest = [] := List.length_eq_zero_iff.1 (by rw [hrl]; simp)
        rw [List.take_length, List.append_nil] at hgw
        have hbw : Below w.heap.size w wr := hbV.trans (hbk.below hbV.size (fun k h e => by omega))
        gi_wp2
        refine ⟨by simp, .inl ⟨_, _, rfl, run_takeDeferred hrD, ?_⟩⟩
        exact ⟨.slice (some ⟨gk, 0, none⟩) l'.length l'.length, by simp [results, Try.results19, go_sem], hbw.trans (belowK_b (w := w) (Nat.le_refl _) wr D _ _ (by omega) hrD rfl rfl), gk, by rw [HNE.out]⟩
  case stop =>
    rintro D pre W hD hSp hF hK
    exact hF.elim
end Go.Proofs.Ytahphjindjlcpaa

/- A deed on both tables, call by call. -/
namespace Go.Proofs.Ytahphjindjlcpaa
open Go.RowKit Go.Shelf
set_option maxRecDepth 100000
set_option linter.unusedVariables false
set_option linter.unusedSimpArgs false

theorem TBv.below_but {base bt : Nat} {w w' : World} {lim cnt trn : Int} {vs : List Value} {ls : Nat → List Rw} (h : TBv base w bt lim cnt trn vs ls) (i : Nat) (hi : i < 256) (hb : base ≤ w.heap.size) (k : But (fun g => g = bt ∨ (vs[i]?.getD undef).ownBlock = some g) w w') : Below base w w' := k.below hb (fun x hx e => by
  rcases e with e | e
  · have := h.2.1; omega
  · have := ((h.2.2.2.1 i hi).lt x e).1; omega)

theorem addL_len {ls : Nat → List Rw} {i n : Nat} {r : Rw} (h : ∀ j, (ls j).length ≤ n) : ∀ j, (addL ls i r j).length ≤ n + 1 := fun j => by
  unfold addL
  have := h j
  have := h i
  split <;> simp <;> omega
theorem mvL_len {ls : Nat → List Rw} {i k n : Nat} {x y : Int} (h : ∀ j, (ls j).length ≤ n) : ∀ j, (mvL ls i k x y j).length ≤ n + 1 := fun j => by
  unfold mvL
  have := h j
  have := h i
  split <;> simp <;> omega
theorem dpL_len {ls : Nat → List Rw} {i k n : Nat} (h : ∀ j, (ls j).length ≤ n) : ∀ j, (dpL ls i k j).length ≤ n + 1 := fun j => by
  unfold dpL
  have := h j
  have := h i
  split
  · rw [List.length_eraseIdx]; split <;> omega
  · omega

def Rg5 (p s d a b : Int) : Prop := (0 ≤ s ∧ s ≤ 4294967295) ∧ (0 ≤ d ∧ d ≤ 4294967295) ∧ (0 ≤ a ∧ a ≤ 65535) ∧ (0 ≤ b ∧ b ≤ 65535)

theorem pt_put (base bt bd : Nat) (lim : Int) (n : Nat) (p s d a b id till : Int) (w : World) (h : PT base w bt bd lim n) (hn : n ≤ 1000) (hlm : lim ≤ 4096) (hg : Rg5 p s d a b) (hbs : base ≤ w.heap.size) :
    Calls Try.prog 14 #[.pointer (some ⟨bt, 0, none⟩), .agg #[.int .u8 p, .int .u32 s, .int .u32 d, .int .u16 a, .int .u16 b], .int .i64 id, .int .i64 till] w fun e w1 => ∃ x, e = .returned (.int .i64 x) ∧ KD w w1 ∧ Below base w w1 ∧
      Calls Try.prog 28 #[.pointer (some ⟨bd, 0, none⟩), .agg #[.int .u8 p, .int .u32 s, .int .u32 d, .int .u16 a, .int .u16 b], .int .i64 id, .int .i64 till] w1 fun e w2 => e = .returned (.int .i64 x) ∧ KD w1 w2 ∧ Below base w1 w2 ∧ PT base w2 bt bd lim (n + 1) := by
  obtain ⟨ls, v, l, trn, ⟨vs, hT⟩, hD, hR, hl1, hl2, ht0, ht1, hwf, hwt, hwk⟩ := h
  refine (put_any base bt lim l.length trn vs ls p s d a b id till w hT hg.1 hg.2.1 hg.2.2.1 hg.2.2.2 hbs (by omega) (by omega) hlm (by have := hl1 (bki p s d a b); omega)).mono ?_
  rintro e w1 ⟨rfl, h1⟩
  rw [pe_eq hR] at h1 ⊢
  generalize hx : rpe lim l p s d a b till = x at h1 ⊢
  refine ⟨x, rfl, ?_⟩
  rcases h1 with ⟨h0, hT1, hb1⟩ | ⟨h0, hT1, hb1⟩
  · refine ⟨.of_later hb1, hb1.mono hbs, ?_⟩
    have hs1 := hb1.size
    have hD1 := hD.later hb1
    refine (rput_any base bd v lim trn l p s d a b id till w1 hD1 (by omega) (by omega) (by omega)).mono ?_
    rintro e w2 ⟨rfl, h2⟩
    rw [hx] at h2
    refine ⟨by rw [hx], ?_⟩
    rcases h2 with ⟨_, v', hD2, hbt, _⟩ | ⟨h3, _⟩
    · refine ⟨.of_ke (hD1.ke hbt), hD1.below (by omega) hbt, ls, v', l, trn, TB.ke ⟨vs, hT1⟩ (hD1.ke hbt), hD2, hR, fun i => by have := hl1 i; omega, by omega, ht0, by omega, hwf, hwt, hwk⟩
    · exact absurd h3 h0
  · have hk1 : KT w w1 := KT.of_but hb1 (hT.typed _ (bki_lt p s d a b))
    have hbl := hT.below_but _ (bki_lt p s d a b) hbs hb1
    refine ⟨.of_kt hk1, hbl, ?_⟩
    have hs1 := hbl.size
    have hD1 := hD.kt hk1
    refine (rput_any base bd v lim trn l p s d a b id till w1 hD1 (by omega) (by omega) (by omega)).mono ?_
    rintro e w2 ⟨rfl, h2⟩
    rw [hx] at h2
    refine ⟨by rw [hx], ?_⟩
    rcases h2 with ⟨h3, _⟩ | ⟨_, v', hD2, hbt, _⟩
    · exact absurd h0 h3
    · have hkn : kix p s d (kyp p a) b l = none := by
        subst h0
        unfold rpe at hx
        by_cases hk : kix p s d (kyp p a) b l = none
        · exact hk
        · rw [if_pos hk] at hx
          split at hx <;> omega
      have hwa : Wfl lim (l ++ [⟨p, s, d, kyp p a, b, id, till, trn + 1⟩]) := by
        subst h0
        unfold rpe at hx
        refine ⟨?_, fun r hr => ?_⟩
        · rw [List.length_append, List.length_singleton]
          split at hx
          · omega
          · split at hx
            · omega
            · split at hx <;> omega
        · rcases List.mem_append.1 hr with h | h
          · exact hwf.2 r h
          · obtain rfl : r = _ := by simpa using h
            split at hx
            · omega
            · rename_i hmb
              have : mayb till = true := by simpa using hmb
              unfold mayb at this
              simpa using this
      have hadd := hR.add ⟨p, s, d, kyp p a, b, id, till, trn + 1⟩ (fun r hr => key_neq (kix_none_iff.1 hkn r hr) id till (trn + 1))
      have hbk : bkr ⟨p, s, d, kyp p a, b, id, till, trn + 1⟩ = bki p s d a b := bkr_key (isK_iff.2 rfl)
      rw [hbk] at hadd
      refine ⟨.of_ke (hD1.ke hbt), hD1.below (by omega) hbt, _, v', _, trn + 1, ?_, hD2, hadd, addL_len hl1, by simp; omega, by omega, by omega, hwa, hwt.add rfl, fun r hr => by
        rcases List.mem_append.1 hr with hr | hr
        · exact hwk r hr
        · obtain rfl : r = _ := by simpa using hr
          exact ⟨kyp_twice p a, hg.1, hg.2.1, kyp_bd hg.2.2.1, hg.2.2.2⟩⟩
      have := TB.ke hT1 (hD1.ke hbt)
      simp only [List.length_append, List.length_cons, List.length_nil]
      exact this

theorem pt_move (base bt bd : Nat) (lim : Int) (n : Nat) (p s d a b till : Int) (w : World) (h : PT base w bt bd lim n) (hn : n ≤ 1000) (hg : Rg5 p s d a b) (hbs : base ≤ w.heap.size) :
    Calls Try.prog 16 #[.pointer (some ⟨bt, 0, none⟩), .agg #[.int .u8 p, .int .u32 s, .int .u32 d, .int .u16 a, .int .u16 b], .int .i64 till] w fun e w1 => ∃ x, e = .returned (.int .i64 x) ∧ KD w w1 ∧ Below base w w1 ∧
      Calls Try.prog 29 #[.pointer (some ⟨bd, 0, none⟩), .agg #[.int .u8 p, .int .u32 s, .int .u32 d, .int .u16 a, .int .u16 b], .int .i64 till] w1 fun e w2 => e = .returned (.int .i64 x) ∧ KD w1 w2 ∧ Below base w1 w2 ∧ PT base w2 bt bd lim (n + 1) := by
  obtain ⟨ls, v, l, trn, hT, hD, hR, hl1, hl2, ht0, ht1, hwf, hwt, hwk⟩ := h
  refine (move_any base bt lim l.length trn ls p s d a b till w hT hg.1 hg.2.1 hg.2.2.1 hg.2.2.2 hbs (by omega)).mono ?_
  rintro e w1 ⟨rfl, h1⟩
  rw [me_eq hR] at h1 ⊢
  generalize hx : rme l p s d a b till = x at h1 ⊢
  refine ⟨x, rfl, ?_⟩
  rcases h1 with ⟨h0, hT1, hb1⟩ | ⟨h0, k, g, hkx, hbg, hT1, hb1, hk1⟩
  · refine ⟨.of_later hb1, hb1.mono hbs, ?_⟩
    have hs1 := hb1.size
    have hD1 := hD.later hb1
    refine (rmove_any base bd v lim trn l p s d a b till w1 hD1 (by omega) (by omega) (by omega)).mono ?_
    rintro e w2 ⟨rfl, h2⟩
    rw [hx] at h2
    refine ⟨by rw [hx], ?_⟩
    rcases h2 with ⟨_, v', hD2, hbt, _⟩ | ⟨h3, _⟩
    · refine ⟨.of_ke (hD1.ke hbt), hD1.below (by omega) hbt, ls, v', l, trn, TB.ke hT1 (hD1.ke hbt), hD2, hR, fun i => by have := hl1 i; omega, by omega, ht0, by omega, hwf, hwt, hwk⟩
    · exact absurd h3 h0
  · have hbl : Below base w w1 := hb1.below hbs (fun x hx e => by rcases e with rfl | rfl; (· obtain ⟨vs, hv⟩ := hT; have := hv.2.1; omega); (· omega))
    refine ⟨.of_kt hk1, hbl, ?_⟩
    have hs1 := hbl.size
    have hD1 := hD.kt hk1
    refine (rmove_any base bd v lim trn l p s d a b till w1 hD1 (by omega) (by omega) (by omega)).mono ?_
    rintro e w2 ⟨rfl, h2⟩
    rw [hx] at h2
    refine ⟨by rw [hx], ?_⟩
    rcases h2 with ⟨h3, _⟩ | ⟨_, k', hk', v', hD2, hbt, _⟩
    · exact absurd h0 h3
    · have hwa : Wfl lim (l.modify k' (fun r => { r with till := till, turn := trn + 1 })) := by
        subst h0
        unfold rme at hx
        refine ⟨by rw [List.length_modify]; exact hwf.1, fun r hr => ?_⟩
        rw [modify_map hR.up.uq hk'] at hr
        obtain ⟨r0, hr0, rfl⟩ := List.mem_map.1 hr
        split
        · split at hx
          · omega
          · rename_i hmb
            have : mayb till = true := by simpa using hmb
            unfold mayb at this
            simpa using this
        · exact hwf.2 r0 hr0
      refine ⟨.of_ke (hD1.ke hbt), hD1.below (by omega) hbt, _, v', _, trn + 1, ?_, hD2, hR.moved hkx hk' till (trn + 1), mvL_len hl1, by rw [List.length_modify]; omega, by omega, by omega, hwa, hwt.move k' till, hwk.modify k' till (trn + 1)⟩
      rw [List.length_modify]
      exact TB.ke hT1 (hD1.ke hbt)

theorem pt_drop (base bt bd : Nat) (lim : Int) (n : Nat) (p s d a b : Int) (w : World) (h : PT base w bt bd lim n) (hn : n ≤ 1000) (hg : Rg5 p s d a b) (hbs : base ≤ w.heap.size) :
    Calls Try.prog 17 #[.pointer (some ⟨bt, 0, none⟩), .agg #[.int .u8 p, .int .u32 s, .int .u32 d, .int .u16 a, .int .u16 b]] w fun e w1 => ∃ x, e = .returned (.int .i64 x) ∧ KD w w1 ∧ Below base w w1 ∧
      Calls Try.prog 30 #[.pointer (some ⟨bd, 0, none⟩), .agg #[.int .u8 p, .int .u32 s, .int .u32 d, .int .u16 a, .int .u16 b]] w1 fun e w2 => e = .returned (.int .i64 x) ∧ KD w1 w2 ∧ Below base w1 w2 ∧ PT base w2 bt bd lim (n + 1) := by
  obtain ⟨ls, v, l, trn, hT, hD, hR, hl1, hl2, ht0, ht1, hwf, hwt, hwk⟩ := h
  refine (tdrop_any base bt lim l.length trn ls p s d a b w hT hR.uq hg.1 hg.2.1 hg.2.2.1 hg.2.2.2 hbs (by omega)).mono ?_
  rintro e w1 ⟨rfl, ⟨hbl, hk1⟩, h1⟩
  rw [de_eq hR]
  refine ⟨_, rfl, .of_kt hk1, hbl, ?_⟩
  have hs1 := hbl.size
  have hD1 := hD.kt hk1
  refine (rtdrop_any base bd v lim trn l p s d a b w1 hD1 (by omega) (by omega)).mono ?_
  rintro e w2 ⟨rfl, h2⟩
  refine ⟨rfl, ?_⟩
  have hke := hR.kxe p s d a b
  rcases h1 with ⟨hk, hT1⟩ | ⟨k, hk, hT1⟩
  · rcases h2 with ⟨_, v', hD2, hbt, _⟩ | ⟨k', hk', _⟩
    · refine ⟨.of_ke (hD1.ke hbt), hD1.below (by omega) hbt, ls, v', l, trn, TB.ke hT1 (hD1.ke hbt), hD2, hR, fun i => by have := hl1 i; omega, by omega, ht0, by omega, hwf, hwt, hwk⟩
    · rw [hke.1 hk] at hk'; cases hk'
  · rcases h2 with ⟨hk', _⟩ | ⟨k', hk', v', hD2, hbt, _⟩
    · rw [hke.2 hk'] at hk; cases hk
    · obtain ⟨hkl, _⟩ := kix_at hk'
      have hle : (l.eraseIdx k').length = l.length - 1 := by rw [List.length_eraseIdx, if_pos hkl]
      refine ⟨.of_ke (hD1.ke hbt), hD1.below (by omega) hbt, _, v', _, trn, ?_, hD2, hR.dropped hk hk', dpL_len hl1, by omega, ht0, by omega, ⟨by have := hwf.1; omega, fun r hr => hwf.2 r (List.mem_of_mem_eraseIdx hr)⟩, hwt.erase k', fun r hr => hwk r (List.mem_of_mem_eraseIdx hr)⟩
      have := TB.ke hT1 (hD1.ke hbt)
      rw [hle]
      rw [show ((l.length - 1 : Nat) : Int) = (l.length : Int) - 1 from by omega]
      exact this
end Go.Proofs.Ytahphjindjlcpaa

/- A deed on both tables: the law's do. -/
namespace Go.Proofs.Ytahphjindjlcpaa
open Go.RowKit Go.Shelf
set_option maxRecDepth 100000
set_option linter.unusedVariables false
set_option linter.unusedSimpArgs false

set_option maxHeartbeats 8000000 in
theorem do6_any (base bt bd : Nat) (lim : Int) (n : Nat) (kd p s d a b id till : Int) (w : World) (h : PT base w bt bd lim n) (hn : n ≤ 1000) (hlm : lim ≤ 4096) (hg : Rg5 p s d a b) (hbs : base ≤ w.heap.size) :
    Calls Try.prog 12 #[.pointer (some ⟨bt, 0, none⟩), .pointer (some ⟨bd, 0, none⟩), .agg #[.int .i64 kd, .int .u8 p, .int .u32 s, .int .u32 d, .int .u16 a, .int .u16 b, .int .i64 id, .int .i64 till]] w fun e w' => e = .returned (.bool true) ∧ PT base w' bt bd lim (n + 1) ∧ Below base w w' := by
  have lb0 : Later w (w.alloc (.cells #[.int .i64 kd, .int .u8 p, .int .u32 s, .int .u32 d, .int .u16 a, .int .u16 b, .int .i64 id, .int .i64 till] 28)) := (Below.refl _ _).alloc (Nat.le_refl _) _
  have c0 := heap_alloc_new w (.cells #[.int .i64 kd, .int .u8 p, .int .u32 s, .int .u32 d, .int .u16 a, .int .u16 b, .int .i64 id, .int .i64 till] 28)
  have hP0 := h.later lb0
  clear h
  have HG := hide hg
  clear hg
  go_enter Try.func12, Try.ntmps12
  have k0 := block_cell c0
  by_cases hk0 : kd = 0
  · subst hk0
    go_upto_region 3 with fail
    clear k0
    generalize w.alloc _ = w0 at *
    refine anyT_begin (R := KD) 18 rfl (by kernel_rfl) ?_
    have ld : Later w0 w0.drew := Later.drew w0
    have lwd := lb0.trans ld
    have cd := later_keep ld c0
    have hPd := hP0.later ld
    clear hP0 c0
    generalize w0.drew = Wd at *
    have hwsz := lwd.size
    have ha : ∀ v1, KD Wd v1 → ∀ j, v1.cell? ⟨w.heap.size, j, none⟩ = _ := fun v1 hv => block_cell (hv _ _ _ _ cd (by decide) (by decide) (by decide) (by decide))
    refine anyT_val KD.pre 0 rfl (by kernel_rfl) (by kernel_rfl) (by kernel_rfl) (fun _ _ _ _ h => h) rfl ?_; apply Exists.intro; refine ⟨fun v1 hv1 => ?_, ?_⟩; (· (go_simp; rfl)); simp only [Act.put, List.setIfInBounds_toArray, List.set_cons_zero, List.set_cons_succ]
    refine anyT_val KD.pre 1 rfl (by kernel_rfl) (by kernel_rfl) (by kernel_rfl) (fun _ _ _ _ h => h) rfl ?_; apply Exists.intro; refine ⟨fun v1 hv1 => ?_, ?_⟩; (· (go_simp; rfl)); simp only [Act.put, List.setIfInBounds_toArray, List.set_cons_zero, List.set_cons_succ]
    refine anyT_val KD.pre 2 rfl (by kernel_rfl) (by kernel_rfl) (by kernel_rfl) (fun _ _ _ _ h => h) rfl ?_; apply Exists.intro; refine ⟨fun v1 hv1 => ?_, ?_⟩; (· (go_simp; rfl)); simp only [Act.put, List.setIfInBounds_toArray, List.set_cons_zero, List.set_cons_succ]
    refine anyT_val KD.pre 3 rfl (by kernel_rfl) (by kernel_rfl) (by kernel_rfl) (fun _ _ _ _ h => h) rfl ?_; apply Exists.intro; refine ⟨fun v1 hv1 => ?_, ?_⟩; (· (go_simp; rfl)); simp only [Act.put, List.setIfInBounds_toArray, List.set_cons_zero, List.set_cons_succ]
    refine anyT_val KD.pre 4 rfl (by kernel_rfl) (by kernel_rfl) (by kernel_rfl) (fun _ _ _ _ h => h) rfl ?_; apply Exists.intro; refine ⟨fun v1 hv1 => ?_, ?_⟩; (· (go_simp; rfl)); simp only [Act.put, List.setIfInBounds_toArray, List.set_cons_zero, List.set_cons_succ]
    refine anyT_val KD.pre 5 rfl (by kernel_rfl) (by kernel_rfl) (by kernel_rfl) (fun _ _ _ _ h => h) rfl ?_; apply Exists.intro; refine ⟨fun v1 hv1 => ?_, ?_⟩; (· (go_simp; rfl)); simp only [Act.put, List.setIfInBounds_toArray, List.set_cons_zero, List.set_cons_succ]
    refine anyT_val KD.pre 6 rfl (by kernel_rfl) (by kernel_rfl) (by kernel_rfl) (fun _ _ _ _ h => h) rfl ?_; apply Exists.intro; refine ⟨fun v1 hv1 => ?_, ?_⟩; (· (go_simp; rfl)); simp only [Act.put, List.setIfInBounds_toArray, List.set_cons_zero, List.set_cons_succ]
    refine anyT_val KD.pre 8 rfl (by kernel_rfl) (by kernel_rfl) (by kernel_rfl) (fun _ _ _ _ h => h) rfl ?_; apply Exists.intro; refine ⟨fun v1 hv1 => ?_, ?_⟩; (· (go_simp; rfl)); simp only [Act.put, List.setIfInBounds_toArray, List.set_cons_zero, List.set_cons_succ]
    refine anyT_val KD.pre 9 rfl (by kernel_rfl) (by kernel_rfl) (by kernel_rfl) (fun _ _ _ _ h => h) rfl ?_; apply Exists.intro; refine ⟨fun v1 hv1 => ?_, ?_⟩; (· (go_simp; rfl)); simp only [Act.put, List.setIfInBounds_toArray, List.set_cons_zero, List.set_cons_succ]
    refine anyT_val KD.pre 10 rfl (by kernel_rfl) (by kernel_rfl) (by kernel_rfl) (fun _ _ _ _ h => h) rfl ?_; apply Exists.intro; refine ⟨fun v1 hv1 => ?_, ?_⟩; (· (go_simp; rfl)); simp only [Act.put, List.setIfInBounds_toArray, List.set_cons_zero, List.set_cons_succ]
    refine anyT_val KD.pre 11 rfl (by kernel_rfl) (by kernel_rfl) (by kernel_rfl) (fun _ _ _ _ h => h) rfl ?_; apply Exists.intro; refine ⟨fun v1 hv1 => ?_, ?_⟩; (· (go_simp; rfl)); simp only [Act.put, List.setIfInBounds_toArray, List.set_cons_zero, List.set_cons_succ]
    refine anyT_val KD.pre 12 rfl (by kernel_rfl) (by kernel_rfl) (by kernel_rfl) (fun _ _ _ _ h => h) rfl ?_; apply Exists.intro; refine ⟨fun v1 hv1 => ?_, ?_⟩; (· (go_simp; rfl)); simp only [Act.put, List.setIfInBounds_toArray, List.set_cons_zero, List.set_cons_succ]
    refine anyT_val KD.pre 13 rfl (by kernel_rfl) (by kernel_rfl) (by kernel_rfl) (fun _ _ _ _ h => h) rfl ?_; apply Exists.intro; refine ⟨fun v1 hv1 => ?_, ?_⟩; (· (go_simp; rfl)); simp only [Act.put, List.setIfInBounds_toArray, List.set_cons_zero, List.set_cons_succ]
    refine anyT_val KD.pre 14 rfl (by kernel_rfl) (by kernel_rfl) (by kernel_rfl) (fun _ _ _ _ h => h) rfl ?_; apply Exists.intro; refine ⟨fun v1 hv1 => ?_, ?_⟩; (· (go_simp; rfl)); simp only [Act.put, List.setIfInBounds_toArray, List.set_cons_zero, List.set_cons_succ]
    clear ha
    refine anyT_one 7 rfl (by kernel_rfl) rfl ?_
    refine wp_enter 14 #[.pointer (some ⟨bt, 0, none⟩), .agg #[.int .u8 p, .int .u32 s, .int .u32 d, .int .u16 a, .int .u16 b], .int .i64 id, .int .i64 till] (by go_simp) ?_
    refine (pt_put base bt bd lim n p s d a b id till Wd hPd hn hlm HG.out (by omega)).mono ?_
    rintro e W1 ⟨x, rfl, hk1, hb1, hc2⟩
    refine ⟨hk1, ?_⟩
    simp only [Act.put, List.setIfInBounds_toArray, List.set_cons_zero, List.set_cons_succ]
    refine anyT_one 15 rfl (by kernel_rfl) rfl ?_
    refine wp_enter 28 #[.pointer (some ⟨bd, 0, none⟩), .agg #[.int .u8 p, .int .u32 s, .int .u32 d, .int .u16 a, .int .u16 b], .int .i64 id, .int .i64 till] (by go_simp) ?_
    refine hc2.mono ?_
    rintro e W2 ⟨rfl, hk2, hb2, hP2⟩
    refine ⟨hk2, ?_⟩
    simp only [Act.put, List.setIfInBounds_toArray, List.set_cons_zero, List.set_cons_succ]
    refine anyT_val KD.pre 16 rfl (by kernel_rfl) (by kernel_rfl) (by kernel_rfl) (fun _ _ _ _ h => h) rfl ?_; apply Exists.intro; refine ⟨fun v1 hv1 => ?_, ?_⟩; (· (go_simp; rfl)); simp only [Act.put, List.setIfInBounds_toArray, List.set_cons_zero, List.set_cons_succ]
    refine anyT_one 17 rfl (by kernel_rfl) rfl ?_
    unfold Oper.wp
    go_simp
    refine ⟨KD.refl _, ?_⟩
    refine anyT_done (by kernel_rfl) ?_
    have hfin : Below base w W2 := ((lwd.mono hbs).trans hb1).trans hb2
    go_wp2_with fail
    go_ret
    exact ⟨by simp, hP2, hfin⟩
  by_cases hk1 : kd = 1
  · subst hk1
    go_upto_region 5 with fail
    clear k0
    generalize w.alloc _ = w0 at *
    refine anyT_begin (R := KD) 14 rfl (by kernel_rfl) ?_
    have ld : Later w0 w0.drew := Later.drew w0
    have lwd := lb0.trans ld
    have cd := later_keep ld c0
    have hPd := hP0.later ld
    clear hP0 c0
    generalize w0.drew = Wd at *
    have hwsz := lwd.size
    have ha : ∀ v1, KD Wd v1 → ∀ j, v1.cell? ⟨w.heap.size, j, none⟩ = _ := fun v1 hv => block_cell (hv _ _ _ _ cd (by decide) (by decide) (by decide) (by decide))
    refine anyT_val KD.pre 0 rfl (by kernel_rfl) (by kernel_rfl) (by kernel_rfl) (fun _ _ _ _ h => h) rfl ?_; apply Exists.intro; refine ⟨fun v1 hv1 => ?_, ?_⟩; (· (go_simp; rfl)); simp only [Act.put, List.setIfInBounds_toArray, List.set_cons_zero, List.set_cons_succ]
    refine anyT_val KD.pre 1 rfl (by kernel_rfl) (by kernel_rfl) (by kernel_rfl) (fun _ _ _ _ h => h) rfl ?_; apply Exists.intro; refine ⟨fun v1 hv1 => ?_, ?_⟩; (· (go_simp; rfl)); simp only [Act.put, List.setIfInBounds_toArray, List.set_cons_zero, List.set_cons_succ]
    refine anyT_val KD.pre 2 rfl (by kernel_rfl) (by kernel_rfl) (by kernel_rfl) (fun _ _ _ _ h => h) rfl ?_; apply Exists.intro; refine ⟨fun v1 hv1 => ?_, ?_⟩; (· (go_simp; rfl)); simp only [Act.put, List.setIfInBounds_toArray, List.set_cons_zero, List.set_cons_succ]
    refine anyT_val KD.pre 3 rfl (by kernel_rfl) (by kernel_rfl) (by kernel_rfl) (fun _ _ _ _ h => h) rfl ?_; apply Exists.intro; refine ⟨fun v1 hv1 => ?_, ?_⟩; (· (go_simp; rfl)); simp only [Act.put, List.setIfInBounds_toArray, List.set_cons_zero, List.set_cons_succ]
    refine anyT_val KD.pre 4 rfl (by kernel_rfl) (by kernel_rfl) (by kernel_rfl) (fun _ _ _ _ h => h) rfl ?_; apply Exists.intro; refine ⟨fun v1 hv1 => ?_, ?_⟩; (· (go_simp; rfl)); simp only [Act.put, List.setIfInBounds_toArray, List.set_cons_zero, List.set_cons_succ]
    refine anyT_val KD.pre 6 rfl (by kernel_rfl) (by kernel_rfl) (by kernel_rfl) (fun _ _ _ _ h => h) rfl ?_; apply Exists.intro; refine ⟨fun v1 hv1 => ?_, ?_⟩; (· (go_simp; rfl)); simp only [Act.put, List.setIfInBounds_toArray, List.set_cons_zero, List.set_cons_succ]
    refine anyT_val KD.pre 7 rfl (by kernel_rfl) (by kernel_rfl) (by kernel_rfl) (fun _ _ _ _ h => h) rfl ?_; apply Exists.intro; refine ⟨fun v1 hv1 => ?_, ?_⟩; (· (go_simp; rfl)); simp only [Act.put, List.setIfInBounds_toArray, List.set_cons_zero, List.set_cons_succ]
    refine anyT_val KD.pre 8 rfl (by kernel_rfl) (by kernel_rfl) (by kernel_rfl) (fun _ _ _ _ h => h) rfl ?_; apply Exists.intro; refine ⟨fun v1 hv1 => ?_, ?_⟩; (· (go_simp; rfl)); simp only [Act.put, List.setIfInBounds_toArray, List.set_cons_zero, List.set_cons_succ]
    refine anyT_val KD.pre 9 rfl (by kernel_rfl) (by kernel_rfl) (by kernel_rfl) (fun _ _ _ _ h => h) rfl ?_; apply Exists.intro; refine ⟨fun v1 hv1 => ?_, ?_⟩; (· (go_simp; rfl)); simp only [Act.put, List.setIfInBounds_toArray, List.set_cons_zero, List.set_cons_succ]
    refine anyT_val KD.pre 10 rfl (by kernel_rfl) (by kernel_rfl) (by kernel_rfl) (fun _ _ _ _ h => h) rfl ?_; apply Exists.intro; refine ⟨fun v1 hv1 => ?_, ?_⟩; (· (go_simp; rfl)); simp only [Act.put, List.setIfInBounds_toArray, List.set_cons_zero, List.set_cons_succ]
    clear ha
    refine anyT_one 5 rfl (by kernel_rfl) rfl ?_
    refine wp_enter 16 #[.pointer (some ⟨bt, 0, none⟩), .agg #[.int .u8 p, .int .u32 s, .int .u32 d, .int .u16 a, .int .u16 b], .int .i64 till] (by go_simp) ?_
    refine (pt_move base bt bd lim n p s d a b till Wd hPd hn  HG.out (by omega)).mono ?_
    rintro e W1 ⟨x, rfl, hk1, hb1, hc2⟩
    refine ⟨hk1, ?_⟩
    simp only [Act.put, List.setIfInBounds_toArray, List.set_cons_zero, List.set_cons_succ]
    refine anyT_one 11 rfl (by kernel_rfl) rfl ?_
    refine wp_enter 29 #[.pointer (some ⟨bd, 0, none⟩), .agg #[.int .u8 p, .int .u32 s, .int .u32 d, .int .u16 a, .int .u16 b], .int .i64 till] (by go_simp) ?_
    refine hc2.mono ?_
    rintro e W2 ⟨rfl, hk2, hb2, hP2⟩
    refine ⟨hk2, ?_⟩
    simp only [Act.put, List.setIfInBounds_toArray, List.set_cons_zero, List.set_cons_succ]
    refine anyT_val KD.pre 12 rfl (by kernel_rfl) (by kernel_rfl) (by kernel_rfl) (fun _ _ _ _ h => h) rfl ?_; apply Exists.intro; refine ⟨fun v1 hv1 => ?_, ?_⟩; (· (go_simp; rfl)); simp only [Act.put, List.setIfInBounds_toArray, List.set_cons_zero, List.set_cons_succ]
    refine anyT_one 13 rfl (by kernel_rfl) rfl ?_
    unfold Oper.wp
    go_simp
    refine ⟨KD.refl _, ?_⟩
    refine anyT_done (by kernel_rfl) ?_
    have hfin : Below base w W2 := ((lwd.mono hbs).trans hb1).trans hb2
    go_wp2_with fail
    go_ret
    exact ⟨by simp, hP2, hfin⟩
  by_cases hk2 : kd = 2
  · subst hk2
    go_upto_region 7 with fail
    clear k0
    generalize w.alloc _ = w0 at *
    refine anyT_begin (R := KD) 10 rfl (by kernel_rfl) ?_
    have ld : Later w0 w0.drew := Later.drew w0
    have lwd := lb0.trans ld
    have cd := later_keep ld c0
    have hPd := hP0.later ld
    clear hP0 c0
    generalize w0.drew = Wd at *
    have hwsz := lwd.size
    have ha : ∀ v1, KD Wd v1 → ∀ j, v1.cell? ⟨w.heap.size, j, none⟩ = _ := fun v1 hv => block_cell (hv _ _ _ _ cd (by decide) (by decide) (by decide) (by decide))
    refine anyT_val KD.pre 0 rfl (by kernel_rfl) (by kernel_rfl) (by kernel_rfl) (fun _ _ _ _ h => h) rfl ?_; apply Exists.intro; refine ⟨fun v1 hv1 => ?_, ?_⟩; (· (go_simp; rfl)); simp only [Act.put, List.setIfInBounds_toArray, List.set_cons_zero, List.set_cons_succ]
    refine anyT_val KD.pre 1 rfl (by kernel_rfl) (by kernel_rfl) (by kernel_rfl) (fun _ _ _ _ h => h) rfl ?_; apply Exists.intro; refine ⟨fun v1 hv1 => ?_, ?_⟩; (· (go_simp; rfl)); simp only [Act.put, List.setIfInBounds_toArray, List.set_cons_zero, List.set_cons_succ]
    refine anyT_val KD.pre 2 rfl (by kernel_rfl) (by kernel_rfl) (by kernel_rfl) (fun _ _ _ _ h => h) rfl ?_; apply Exists.intro; refine ⟨fun v1 hv1 => ?_, ?_⟩; (· (go_simp; rfl)); simp only [Act.put, List.setIfInBounds_toArray, List.set_cons_zero, List.set_cons_succ]
    refine anyT_val KD.pre 4 rfl (by kernel_rfl) (by kernel_rfl) (by kernel_rfl) (fun _ _ _ _ h => h) rfl ?_; apply Exists.intro; refine ⟨fun v1 hv1 => ?_, ?_⟩; (· (go_simp; rfl)); simp only [Act.put, List.setIfInBounds_toArray, List.set_cons_zero, List.set_cons_succ]
    refine anyT_val KD.pre 5 rfl (by kernel_rfl) (by kernel_rfl) (by kernel_rfl) (fun _ _ _ _ h => h) rfl ?_; apply Exists.intro; refine ⟨fun v1 hv1 => ?_, ?_⟩; (· (go_simp; rfl)); simp only [Act.put, List.setIfInBounds_toArray, List.set_cons_zero, List.set_cons_succ]
    refine anyT_val KD.pre 6 rfl (by kernel_rfl) (by kernel_rfl) (by kernel_rfl) (fun _ _ _ _ h => h) rfl ?_; apply Exists.intro; refine ⟨fun v1 hv1 => ?_, ?_⟩; (· (go_simp; rfl)); simp only [Act.put, List.setIfInBounds_toArray, List.set_cons_zero, List.set_cons_succ]
    clear ha
    refine anyT_one 3 rfl (by kernel_rfl) rfl ?_
    refine wp_enter 17 #[.pointer (some ⟨bt, 0, none⟩), .agg #[.int .u8 p, .int .u32 s, .int .u32 d, .int .u16 a, .int .u16 b]] (by go_simp) ?_
    refine (pt_drop base bt bd lim n p s d a b  Wd hPd hn  HG.out (by omega)).mono ?_
    rintro e W1 ⟨x, rfl, hk1, hb1, hc2⟩
    refine ⟨hk1, ?_⟩
    simp only [Act.put, List.setIfInBounds_toArray, List.set_cons_zero, List.set_cons_succ]
    refine anyT_one 7 rfl (by kernel_rfl) rfl ?_
    refine wp_enter 30 #[.pointer (some ⟨bd, 0, none⟩), .agg #[.int .u8 p, .int .u32 s, .int .u32 d, .int .u16 a, .int .u16 b]] (by go_simp) ?_
    refine hc2.mono ?_
    rintro e W2 ⟨rfl, hk2, hb2, hP2⟩
    refine ⟨hk2, ?_⟩
    simp only [Act.put, List.setIfInBounds_toArray, List.set_cons_zero, List.set_cons_succ]
    refine anyT_val KD.pre 8 rfl (by kernel_rfl) (by kernel_rfl) (by kernel_rfl) (fun _ _ _ _ h => h) rfl ?_; apply Exists.intro; refine ⟨fun v1 hv1 => ?_, ?_⟩; (· (go_simp; rfl)); simp only [Act.put, List.setIfInBounds_toArray, List.set_cons_zero, List.set_cons_succ]
    refine anyT_one 9 rfl (by kernel_rfl) rfl ?_
    unfold Oper.wp
    go_simp
    refine ⟨KD.refl _, ?_⟩
    refine anyT_done (by kernel_rfl) ?_
    have hfin : Below base w W2 := ((lwd.mono hbs).trans hb1).trans hb2
    go_wp2_with fail
    go_ret
    exact ⟨by simp, hP2, hfin⟩
  have HP := hide (hP0.mono (Nat.le_succ n))
  have HB := hide (lb0.mono hbs)
  go_wp2_with fail
  go_ret
  exact ⟨by simp, HP.out, HB.out⟩
end Go.Proofs.Ytahphjindjlcpaa

/- How an argument that is a deed of a table reads. -/
namespace Go.Proofs.Ytahphjindjlcpaa
open Go.ChangeShapes Go.WideShapes Go.ChangeAt Go.RowKit Go.Joins
set_option maxRecDepth 100000
set_option linter.unusedVariables false
set_option linter.unusedSimpArgs false

theorem arr8 {α : Type} {l : Array α} (h : l.size = 8) : ∃ a b c d e f g i, l = #[a, b, c, d, e, f, g, i] := by
  obtain ⟨l⟩ := l
  match l, h with
  | [a, b, c, d, e, f, g, i], _ => exact ⟨a, b, c, d, e, f, g, i, rfl⟩
theorem lst4 {α : Type} {l : List α} (h : l.length = 4) : ∃ a b c d, l = [a, b, c, d] := by
  match l, h with
  | [a, b, c, d], _ => exact ⟨a, b, c, d, rfl⟩
theorem lst5' {α : Type} {l : List α} (h : l.length = 5) : ∃ a b c d e, l = [a, b, c, d, e] := by
  match l, h with
  | [a, b, c, d, e], _ => exact ⟨a, b, c, d, e, rfl⟩

theorem open_deed {H : Type} {enc : TypeId × Value → H} {W : World} {r : Reach} {b0 : Nat} {v : Value} {d : DataW H} {p : List MemPlace} (hv : Value.okWide Try.prog W r b0 28 v) (h : DataW.Trod enc Try.prog W 0 (fun _ => true) true 28 v d p) :
    ∃ k x y z a b i t : Int, v = .agg #[.int .i64 k, .int .u8 x, .int .u32 y, .int .u32 z, .int .u16 a, .int .u16 b, .int .i64 i, .int .i64 t] ∧ (0 ≤ x ∧ x ≤ 255) ∧ (0 ≤ y ∧ y ≤ 4294967295) ∧ (0 ≤ z ∧ z ≤ 4294967295) ∧ (0 ≤ a ∧ a ≤ 65535) ∧ (0 ≤ b ∧ b ≤ 65535) ∧ (-9223372036854775808 ≤ k ∧ k ≤ 9223372036854775807) ∧ (-9223372036854775808 ≤ i ∧ i ≤ 9223372036854775807) ∧ (-9223372036854775808 ≤ t ∧ t ≤ 9223372036854775807) := by
  obtain ⟨cs, rfl, hsz⟩ := okWide_struct Try.underlying28 hv
  obtain ⟨c0, c1, c2, c3, c4, c5, c6, c7, rfl⟩ := arr8 (hsz.trans (by kernel_rfl))
  obtain ⟨fuel, hf⟩ := h
  obtain ⟨xs, n, hn, hx, _, hlen, hfs⟩ := DataW.trod_struct Try.underlying28 hf
  obtain ⟨y0, y1, y2, y3, rfl⟩ := lst4 hlen
  have k0 : Try.prog.cellsOf 3 = 1 := by kernel_rfl
  have kt : Try.prog.cellsOf 26 = 5 := by kernel_rfl
  have k1 : Try.prog.cellsOf 5 = 1 := by kernel_rfl
  have k3 : Try.prog.cellsOf 23 = 1 := by kernel_rfl
  have k5 : Try.prog.cellsOf 24 = 1 := by kernel_rfl
  have f0 := hfs 0 _ rfl
  have f1 := hfs 1 _ rfl
  have f2 := hfs 2 _ rfl
  have f3 := hfs 3 _ rfl
  simp [Value.cells, k0, kt] at f0 f1 f2 f3
  obtain ⟨k, e0, _, w0⟩ := DataW.trod_int Try.underlying3 f0
  obtain ⟨i, e2, _, w2⟩ := DataW.trod_int Try.underlying3 f2
  obtain ⟨t, e3, _, w3⟩ := DataW.trod_int Try.underlying3 f3
  obtain ⟨xs1, n1, hn1, hx1, _, hlen1, hfs1⟩ := DataW.trod_struct Try.underlying26 f1
  obtain ⟨z0, z1, z2, z3, z4, rfl⟩ := lst5' hlen1
  have g0 := hfs1 0 _ rfl
  have g1 := hfs1 1 _ rfl
  have g2 := hfs1 2 _ rfl
  have g3 := hfs1 3 _ rfl
  have g4 := hfs1 4 _ rfl
  simp [Value.cells, k1, k3, k5] at g0 g1 g2 g3 g4
  obtain ⟨x, e4, _, w4⟩ := DataW.trod_int Try.underlying5 g0
  obtain ⟨y, e5, _, w5⟩ := DataW.trod_int Try.underlying23 g1
  obtain ⟨z, e6, _, w6⟩ := DataW.trod_int Try.underlying23 g2
  obtain ⟨a, e7, _, w7⟩ := DataW.trod_int Try.underlying24 g3
  obtain ⟨b, e8, _, w8⟩ := DataW.trod_int Try.underlying24 g4
  simp at e0 e2 e3 e4 e5 e6 e7 e8
  subst e0 e2 e3 e4 e5 e6 e7 e8
  simp [Lit.wf, IntKind.min, IntKind.max, IntKind.signed, IntKind.bits] at w0 w2 w3 w4 w5 w6 w7 w8
  exact ⟨k, x, y, z, a, b, i, t, rfl, w4, w5, w6, w7, w8, w0, w2, w3⟩
end Go.Proofs.Ytahphjindjlcpaa

/- How arguments that are deeds of a table read. -/
namespace Go.Proofs.Ytahphjindjlcpaa
open Go.ChangeShapes Go.WideShapes Go.ChangeAt Go.RowKit Go.Joins
set_option maxRecDepth 100000
set_option linter.unusedVariables false
set_option linter.unusedSimpArgs false

theorem addr_add6 (b off k : Nat) : (⟨b, off, none⟩ : Addr).add k = ⟨b, off + k, none⟩ := by unfold Addr.add; split <;> simp_all

theorem lst8 {α : Type} {l : List α} (h : l.length = 8) : ∃ a b c d e f g i, l = [a, b, c, d, e, f, g, i] := by
  match l, h with
  | [a, b, c, d, e, f, g, i], _ => exact ⟨a, b, c, d, e, f, g, i, rfl⟩

/-- A deed: its kind, a key, a number, a time. -/
structure De where
  k : Int
  p : Int
  s : Int
  d : Int
  a : Int
  b : Int
  id : Int
  till : Int
def dec (d : De) : List Value := [.int .i64 d.k, .int .u8 d.p, .int .u32 d.s, .int .u32 d.d, .int .u16 d.a, .int .u16 d.b, .int .i64 d.id, .int .i64 d.till]
def wfE (d : De) : Prop := (0 ≤ d.p ∧ d.p ≤ 255) ∧ (0 ≤ d.s ∧ d.s ≤ 4294967295) ∧ (0 ≤ d.d ∧ d.d ≤ 4294967295) ∧ (0 ≤ d.a ∧ d.a ≤ 65535) ∧ (0 ≤ d.b ∧ d.b ≤ 65535) ∧ (-9223372036854775808 ≤ d.k ∧ d.k ≤ 9223372036854775807) ∧ (-9223372036854775808 ≤ d.id ∧ d.id ≤ 9223372036854775807) ∧ (-9223372036854775808 ≤ d.till ∧ d.till ≤ 9223372036854775807)

theorem trod_deed6 {H : Type} {enc : TypeId × Value → H} {W : World} {n : Nat} {cs : List Value} {y : DataW H × List MemPlace} (h : DataW.trod enc Try.prog W 0 (fun _ => true) true n 28 cs = some y) (hl : cs.length = 8) : ∃ d : De, cs = dec d ∧ wfE d := by
  obtain ⟨c0, c1, c2, c3, c4, c5, c6, c7, rfl⟩ := lst8 hl
  obtain ⟨xs, n, hn, hx, _, hlen, hfs⟩ := DataW.trod_struct Try.underlying28 h
  obtain ⟨y0, y1, y2, y3, rfl⟩ := lst4 hlen
  have k0 : Try.prog.cellsOf 3 = 1 := by kernel_rfl
  have kt : Try.prog.cellsOf 26 = 5 := by kernel_rfl
  have k1 : Try.prog.cellsOf 5 = 1 := by kernel_rfl
  have k3 : Try.prog.cellsOf 23 = 1 := by kernel_rfl
  have k5 : Try.prog.cellsOf 24 = 1 := by kernel_rfl
  have f0 := hfs 0 _ rfl
  have f1 := hfs 1 _ rfl
  have f2 := hfs 2 _ rfl
  have f3 := hfs 3 _ rfl
  simp [Value.cells, k0, kt] at f0 f1 f2 f3
  obtain ⟨k, e0, _, w0⟩ := DataW.trod_int Try.underlying3 f0
  obtain ⟨i, e2, _, w2⟩ := DataW.trod_int Try.underlying3 f2
  obtain ⟨t, e3, _, w3⟩ := DataW.trod_int Try.underlying3 f3
  obtain ⟨xs1, n1, hn1, hx1, _, hlen1, hfs1⟩ := DataW.trod_struct Try.underlying26 f1
  obtain ⟨z0, z1, z2, z3, z4, rfl⟩ := lst5' hlen1
  have g0 := hfs1 0 _ rfl
  have g1 := hfs1 1 _ rfl
  have g2 := hfs1 2 _ rfl
  have g3 := hfs1 3 _ rfl
  have g4 := hfs1 4 _ rfl
  simp [Value.cells, k1, k3, k5] at g0 g1 g2 g3 g4
  obtain ⟨x, e4, _, w4⟩ := DataW.trod_int Try.underlying5 g0
  obtain ⟨y, e5, _, w5⟩ := DataW.trod_int Try.underlying23 g1
  obtain ⟨z, e6, _, w6⟩ := DataW.trod_int Try.underlying23 g2
  obtain ⟨a, e7, _, w7⟩ := DataW.trod_int Try.underlying24 g3
  obtain ⟨b, e8, _, w8⟩ := DataW.trod_int Try.underlying24 g4
  simp at e0 e2 e3 e4 e5 e6 e7 e8
  subst e0 e2 e3 e4 e5 e6 e7 e8
  simp [Lit.wf, IntKind.min, IntKind.max, IntKind.signed, IntKind.bits] at w0 w2 w3 w4 w5 w6 w7 w8
  exact ⟨⟨k, x, y, z, a, b, i, t⟩, rfl, w4, w5, w6, w7, w8, w0, w2, w3⟩

/-- The slice value reads as these deeds, all of it below block n₀. -/
def RdE (n₀ : Nat) (W : World) (sv : Value) (l : List De) : Prop :=
  (∃ a cap, sv = .slice a 0 cap ∧ l = [] ∧ cap ≤ 9223372036854775807) ∨
  ∃ b off cap, sv = .slice (some ⟨b, off, none⟩) l.length cap ∧ l ≠ [] ∧ l.length ≤ cap ∧ cap ≤ 9223372036854775807 ∧ b < n₀ ∧ ∀ j (hj : j < l.length), ∀ i, i < 8 → W.cell? ⟨b, off + j * 8 + i, none⟩ = (dec l[j])[i]?
theorem RdE.below {n₀ : Nat} {A B : World} (h : Below n₀ A B) {sv : Value} {l : List De} : RdE n₀ A sv l → RdE n₀ B sv l
  | .inl e => .inl e
  | .inr ⟨b, off, cap, e, hne, hl, hm, hb, hc⟩ => .inr ⟨b, off, cap, e, hne, hl, hm, hb, fun j hj i hi => (h.cell (p := ⟨b, off + j * 8 + i, none⟩) hb).trans (hc j hj i hi)⟩
theorem RdE.slice {n₀ : Nat} {A : World} {sv : Value} {l : List De} : RdE n₀ A sv l → ∃ a cap, sv = .slice a l.length cap ∧ l.length ≤ cap ∧ cap ≤ 9223372036854775807
  | .inl ⟨a, cap, e, hz, hm⟩ => ⟨a, cap, by rw [e, hz]; rfl, by rw [hz]; exact Nat.zero_le _, hm⟩
  | .inr ⟨b, off, cap, e, _, hl, hm, _⟩ => ⟨_, cap, e, hl, hm⟩
theorem RdE.cells {n₀ : Nat} {W : World} {sv : Value} {l : List De} (h : RdE n₀ W sv l) (hne : 0 < l.length) : ∃ b off cap, sv = .slice (some ⟨b, off, none⟩) l.length cap ∧ l.length ≤ cap ∧ cap ≤ 9223372036854775807 ∧ b < n₀ ∧ ∀ j (hj : j < l.length), ∀ i, i < 8 → W.cell? ⟨b, off + j * 8 + i, none⟩ = (dec l[j])[i]? := by
  rcases h with ⟨a, cap, _, rfl, _⟩ | ⟨b, off, cap, e, _, hl, hm, hb, hc⟩
  · simp at hne
  · exact ⟨b, off, cap, e, hl, hm, hb, hc⟩

theorem open_deeds6 {H : Type} {enc : TypeId × Value → H} {W : World} {n : Nat} {c : Value} {y : DataW H × List MemPlace} (h : DataW.trod enc Try.prog W 0 (fun _ => true) true n 22 [c] = some y) : ∃ l, RdE W.heap.size W c l ∧ ∀ d ∈ l, wfE d := by
  rcases DataW.trod_slice Try.underlying22 h with ⟨hcs, _⟩ | ⟨a, len, cap, elems, rest, n, _, hcs, rfl, hb, hl, hm, hlen, hel, hsp, hns⟩
  · simp at hcs
    subst hcs
    exact ⟨[], .inl ⟨_, _, rfl, rfl, by omega⟩, fun d hd => by cases hd⟩
  · simp at hcs
    subst hcs
    have hc1 : Try.prog.cellsOf 28 = 8 := by kernel_rfl
    by_cases h0 : len = 0
    · subst h0
      exact ⟨[], .inl ⟨_, _, rfl, rfl, by simpa [maxLen] using hm⟩, fun d hd => by cases hd⟩
    have each : ∀ i, ∃ d : De, i < len → wfE d ∧ ∀ j, j < 8 → W.cell? ((a.add (i * 8)).add j) = (dec d)[j]? := fun i => by
      by_cases hi : i < len
      · have h1 := hel i hi
        rw [hc1] at h1
        have hy : elems[i]? = some (elems[i]'(by omega)) := List.getElem?_eq_getElem (by omega)
        rw [hy, Option.bind_eq_some_iff] at h1
        obtain ⟨cs', hcs, hy'⟩ := h1
        obtain ⟨q1, q2, q3⟩ := World.cells?_some hcs
        obtain ⟨d, e, hw⟩ := trod_deed6 hy' q2
        exact ⟨d, fun _ => ⟨hw, fun j hj => by rw [q3 j hj, e]⟩⟩
      · exact ⟨⟨0, 0, 0, 0, 0, 0, 0, 0⟩, fun h => absurd h hi⟩
    obtain ⟨O, hO⟩ := Classical.axiomOfChoice each
    obtain ⟨b, off, spot⟩ := a
    have hc : W.cell? _ = some _ := ((hO 0 (by omega)).2 0 (by omega))
    have hspot : spot = none := by simpa [Addr.add] using World.cell?_spot hc
    subst hspot
    refine ⟨(List.range len).map O, .inr ⟨b, off, cap, by simp, by intro e; have := congrArg List.length e; simp at this; omega, by simp; omega, by simpa [maxLen] using hm, ?_, fun j hj i hi => ?_⟩, fun d hd => ?_⟩
    · have := World.block_lt_of_cell? W _ hc
      simpa [Addr.add] using this
    · have hj' : j < len := by simpa using hj
      have := (hO j hj').2 i hi
      rw [addr_add6, addr_add6] at this
      rw [this]
      simp
    · obtain ⟨i, hi, rfl⟩ := List.mem_map.1 hd
      exact (hO i (by simpa using hi)).1
end Go.Proofs.Ytahphjindjlcpaa

/- Deeds on both tables: the law's play. -/
namespace Go.Proofs.Ytahphjindjlcpaa
open Go.RowKit Go.Shelf
set_option maxRecDepth 100000
set_option linter.unusedVariables false
set_option linter.unusedSimpArgs false

set_option maxHeartbeats 4000000 in
theorem rnew6_any (n : Int) (w : World) (h1 : 1 ≤ n) (h2 : n ≤ 4096) : Calls Try.prog 20 #[.int .i64 n] w fun e w' => e = .returned (.pointer (some ⟨w.heap.size, 0, none⟩)) ∧ Below w.heap.size w w' ∧ DT w.heap.size w' w.heap.size (.slice none 0 0) n 0 [] := by
  have la : Later w (w.alloc (.cells #[.slice none 0 0, .int .i64 n, .int .i64 0] 69)) := (Below.refl _ _).alloc (Nat.le_refl _) _
  have hn := heap_alloc_new w (.cells #[.slice none 0 0, .int .i64 n, .int .i64 0] 69)
  go_enter Try.func20, Try.ntmps20
  go_wp2_with fail
  go_ret
  exact ⟨rfl, la, Nat.le_refl _, hn, World.ownsRow_nil _ _ _ _⟩

set_option maxHeartbeats 8000000 in
theorem play6_any (n₀ : Nat) (m : Int) (sv : Value) (ds : List De) (w : World) (hm : 0 ≤ m ∧ m ≤ 255) (hI : RdE n₀ w sv ds) (hd : ∀ d ∈ ds, wfE d) (hn : n₀ ≤ w.heap.size) :
    Calls Try.prog 7 #[.int .u8 m, sv] w fun e w' => Later w w' ∧ ∃ a b, e = .returned (.tuple #[.pointer (some ⟨a, 0, none⟩), .pointer (some ⟨b, 0, none⟩), .bool true]) ∧ PT w.heap.size w' a b (m % 8 + 1) 100 := by
  obtain ⟨aa, ca, rfl, ha1, ha2⟩ := hI.slice
  have HI := hide hI
  clear hI
  have hr1 : 1 ≤ m % 8 + 1 := by omega
  have hr2 : m % 8 + 1 ≤ 8 := by omega
  have hmt : Int.tmod m 8 = m % 8 := Int.tmod_eq_emod_of_nonneg hm.1
  go_enter Try.func7, Try.ntmps7
  go_wp2_with fail
  refine (new_yes (m % 8 + 1) w hr1 (by omega)).mono ?_
  rintro e w1 ⟨rfl, l1, hA⟩
  generalize hwa : w.heap.size = a at *
  go_wp2_with fail
  refine (rnew6_any (m % 8 + 1) w1 hr1 (by omega)).mono ?_
  rintro e w2 ⟨rfl, l2, hB⟩
  have hA2 := TB.later hA l2
  have hs1 := l1.size
  have hPQ0 : PT a w2 a w1.heap.size (m % 8 + 1) 0 := ⟨_, _, [], 0, hA2, ⟨by omega, hB.2.1, World.ownsRow_nil _ _ _ _⟩, Rel.empty, fun _ => Nat.le_refl _, Nat.le_refl _, by omega, by omega, ⟨by simp; omega, fun r hr => by cases hr⟩, Wft.nil _, fun r hr => by cases hr⟩
  generalize w1.heap.size = b at *
  have L2 : Below a w w2 := l1.trans (l2.mono (by omega))
  clear hB hA hA2
  generalize hlm : m % 8 + 1 = lim at *
  have HLM := hide hlm
  clear hlm
  clear hmt hm
  go_wp2_with fail
  go_loopw [10] (fun i wr => ∃ k : Nat, k ≤ ds.length ∧ k ≤ 100 ∧ i = .int .i64 (k : Int) ∧ PT a wr a b lim k ∧ Below a w2 wr) (fun i _ => ds.length - (intOf i).toNat)
  case atStart => exact ⟨0, by omega, by omega, rfl, hPQ0, Below.refl _ _⟩
  case round =>
    obtain ⟨k, hk, hk6, rfl, hPQ, hbw⟩ := hrel
    have hbz : Below a w wr := L2.trans hbw
    by_cases hlt : k < ds.length
    · have hlt' : (k : Int) < ds.length := by omega
      by_cases h60 : k < 100
      · have h60' : (k : Int) < 100 := by omega
        obtain ⟨bb, off, cp, e, _, _, hbb, hcs⟩ := (HI.out.below (hbz.mono (by omega))).cells (by omega)
        simp at e
        obtain ⟨rfl, rfl⟩ := e
        have d0 := hcs k hlt 0 (by omega)
        have d1 := hcs k hlt 1 (by omega)
        have d2 := hcs k hlt 2 (by omega)
        have d3 := hcs k hlt 3 (by omega)
        have d4 := hcs k hlt 4 (by omega)
        have d5 := hcs k hlt 5 (by omega)
        have d6 := hcs k hlt 6 (by omega)
        have d7 := hcs k hlt 7 (by omega)
        have hwf := hd ds[k] (List.getElem_mem hlt)
        clear hcs
        generalize ds[k] = r at *
        simp only [dec, List.getElem?_cons_zero, List.getElem?_cons_succ, Nat.add_zero] at d0 d1 d2 d3 d4 d5 d6 d7
        have HDO := hide (do6_any a a b lim k r.k r.p r.s r.d r.a r.b r.id r.till wr hPQ (by omega) (by omega) ⟨hwf.2.1, hwf.2.2.1, hwf.2.2.2.1, hwf.2.2.2.2.1⟩ (by have := hbz.size; omega))
        go_wp2_with fail
        refine HDO.out.mono ?_
        rintro e W3 ⟨rfl, hP3, hb3⟩
        clear d0 d1 d2 d3 d4 d5 d6 d7
        go_wp2_with fail
        go_roundw
        case rel => exact ⟨k + 1, by omega, by omega, by go_num, hP3, hbw.trans hb3⟩
        case measure => simp [intOf]; omega
      · obtain rfl : k = 100 := by omega
        go_wp2_with fail
        refine bodyPost_ret (v := .tuple #[.pointer (some ⟨a, 0, none⟩), .pointer (some ⟨b, 0, none⟩), .bool true]) (by simp [results, Try.results7, go_sem]) rfl ⟨by unfold Later; rw [hwa]; exact hbz, a, b, rfl, by rw [hwa, HLM.out]; exact hPQ⟩
    · obtain rfl : k = ds.length := by omega
      go_wp2_with fail
      refine bodyPost_ret (v := .tuple #[.pointer (some ⟨a, 0, none⟩), .pointer (some ⟨b, 0, none⟩), .bool true]) (by simp [results, Try.results7, go_sem]) rfl ⟨by unfold Later; rw [hwa]; exact hbz, a, b, rfl, ?_⟩
      rw [hwa, HLM.out]
      exact hPQ.mono hk6
end Go.Proofs.Ytahphjindjlcpaa

/- The walk of TableKeys. -/
namespace Go.Proofs.Ytahphjindjlcpaa
open Go.RowKit Go.Shelf
set_option maxRecDepth 100000
set_option linter.unusedVariables false
set_option linter.unusedSimpArgs false

theorem gtv_kyp {p s d a a' b : Int} {ls : Nat → List Rw} (h : kyp p a' = kyp p a) : gtv p s d a' b ls = gtv p s d a b ls := by
  unfold gtv kx bki
  rw [h]
/-- What Get answers: an identity, a time, whether it is there. -/
theorem gtv_form (p s d a b : Int) (ls : Nat → List Rw) : ∃ x y z, gtv p s d a b ls = .tuple #[.int .i64 x, .int .i64 y, .bool z] := by
  unfold gtv
  split
  · exact ⟨_, _, _, rfl⟩
  · rename_i k hk
    obtain ⟨hkl, _⟩ := kix_at hk
    rw [List.getElem?_eq_getElem hkl]
    exact ⟨_, _, _, rfl⟩

end Go.Proofs.Ytahphjindjlcpaa

/- The walk of TableLimits. -/
namespace Go.Proofs.Ytahphjindjlcpaa
open Go.RowKit Go.Shelf
set_option maxRecDepth 100000
set_option linter.unusedVariables false
set_option linter.unusedSimpArgs false

theorem bkr_lt (r : Rw) : bkr r < 256 := by have := hsh_tb r.p r.s r.d r.a r.b; unfold bkr; omega
/-- All rows, list by list, are the document's in another order. -/
theorem Rel.perm {ls : Nat → List Rw} {l : List Rw} (h : Rel ls l) : (allR ls).Perm l := by
  have hn : ∀ m : List Rw, UP m → m.Nodup := fun m hm => List.Pairwise.imp (fun {x y} hxy e => hxy (by rw [e])) hm
  refine (List.perm_ext_iff_of_nodup ?_ (hn _ h.up)).2 fun r => ?_
  · unfold allR List.Nodup
    rw [List.pairwise_flatMap]
    refine ⟨fun i _ => hn _ (h.once i), ?_⟩
    refine List.Pairwise.imp ?_ List.nodup_range
    intro i j hij x hx y hy e
    rw [← h.place i x hx, ← h.place j y hy, e] at hij
    exact hij rfl
  · unfold allR
    rw [List.mem_flatMap, h.mem r]
    constructor
    · rintro ⟨i, _, hr⟩
      rw [h.place i r hr]
      exact hr
    · intro hr
      exact ⟨bkr r, by simpa using bkr_lt r, hr⟩
theorem Rel.due_all {ls : Nat → List Rw} {l : List Rw} {lim : Int} (h : Rel ls l) (hw : Wfl lim l) : duR 1099511627776 (allR ls) = allR ls := by
  unfold duR
  rw [List.filter_eq_self]
  intro r hr
  simpa using (hw.2 r (h.perm.mem_iff.1 hr)).2

end Go.Proofs.Ytahphjindjlcpaa

/- What TableDue asks: keys of rows, row by row; the same keys. -/
namespace Go.Proofs.Ytahphjindjlcpaa
open Go.RowKit Go.Shelf
set_option maxRecDepth 100000
set_option linter.unusedVariables false
set_option linter.unusedSimpArgs false

theorem rks_at : ∀ (l : List Rw) (j i : Nat) (hj : j < l.length), i < 5 → (rks l)[j * 5 + i]? = (rwk l[j])[i]?
  | r :: l, 0, i, _, hi => by
    unfold rks
    rw [List.flatMap_cons, List.getElem?_append_left (by simp [rwk]; omega)]
    simp
  | r :: l, j + 1, i, hj, hi => by
    have := rks_at l j i (by simpa using hj) hi
    unfold rks at this ⊢
    rw [List.flatMap_cons, List.getElem?_append_right (by simp [rwk]; omega)]
    rw [show (j + 1) * 5 + i - (rwk r).length = j * 5 + i from by simp [rwk]; omega, this]
    simp
/-- In order: a row's time is up just where it stands ahead of all that is not due. -/
theorem inO_due_iff {l : List Rw} (h : InO l) (now : Int) (i : Nat) (hi : i < l.length) : l[i].till ≤ now ↔ i < (duR now l).length := by
  constructor
  · intro ht
    have h2 : ∀ j (hj : j < l.length), j ≤ i → l[j].till ≤ now := fun j hj hji => by
      rcases Nat.lt_or_eq_of_le hji with hlt | rfl
      · have := List.pairwise_iff_getElem.1 h j i hj hi hlt
        rw [ltR_false] at this
        omega
      · exact ht
    have h3 : (l.take (i + 1)).filter (fun r => decide (r.till ≤ now)) = l.take (i + 1) := by
      rw [List.filter_eq_self]
      intro r hr
      obtain ⟨j, hj, rfl⟩ := List.getElem_of_mem hr
      rw [List.getElem_take]
      simpa using h2 j (by simp at hj; omega) (by simp at hj; omega)
    unfold duR
    conv => rhs; rw [← List.take_append_drop (i + 1) l]
    rw [List.filter_append, h3, List.length_append, List.length_take]
    omega
  · intro hlt
    have e := inO_due h now
    have hm : l[i] ∈ duR now l := by
      rw [e]
      exact List.mem_iff_getElem.2 ⟨i, by rw [List.length_take]; omega, by rw [List.getElem_take]⟩
    unfold duR at hm
    simpa using (List.mem_filter.1 hm).2
theorem due_due {l : List Rw} {a b : Int} (h : a ≤ b) : duR a (duR b l) = duR a l := by
  unfold duR
  rw [List.filter_filter]
  congr 1
  funext r
  simp
  omega
/-- Get of a key that stands in the table answers its row. -/
theorem Rel.gtv {ls : Nat → List Rw} {l : List Rw} (h : Rel ls l) {r : Rw} (hr : r ∈ l) (hk : kyp r.p r.a = r.a) : gtv r.p r.s r.d r.a r.b ls = .tuple #[.int .i64 r.id, .int .i64 r.till, .bool true] := by
  have hb : bki r.p r.s r.d r.a r.b = bkr r := by unfold bki bkr; rw [hk]
  have hm := (h.mem r).1 hr
  obtain ⟨i, hi, e⟩ := List.getElem_of_mem hm
  have hself : isK r.p r.s r.d r.a r.b r = true := isK_iff.2 rfl
  have hx : kx r.p r.s r.d r.a r.b ls = some i := by
    unfold kx
    rw [hb, hk]
    cases hn : kix r.p r.s r.d r.a r.b (ls (bkr r)) with
    | none =>
      have := kix_none_iff.1 hn r hm
      rw [hself] at this
      cases this
    | some j =>
      obtain ⟨hj, hj2⟩ := kix_at hn
      rw [h.uq _ r.p r.s r.d r.a r.b j i hj hi hj2 (by rw [e]; exact hself)]
  unfold Go.Proofs.Ytahphjindjlcpaa.gtv
  rw [hx, hb]
  simp only [List.getElem?_eq_getElem hi, e]
end Go.Proofs.Ytahphjindjlcpaa
