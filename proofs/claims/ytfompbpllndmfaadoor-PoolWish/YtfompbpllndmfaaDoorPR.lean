/- Package pool: Used. -/
import Derived.Deep.AppendLies
import Derived.Test.YtfompbpllndmfaaDoorPK
namespace Go.Proofs.YtfompbpllndmfaaDoor
open Go.RowKit Go.Shelf
set_option maxRecDepth 100000
attribute [local go_sem] Oper.semAt_some
set_option linter.unusedVariables false
set_option linter.unusedSimpArgs false

theorem hset_ne {W : World} {n m j : Nat} {v : Value} {o : Obj} (h : W.heap[n]? = some o) (hne : n ≠ m) : (W.setCell ⟨m, j, none⟩ v).heap[n]? = some o := (Below.heap_setCell W ⟨m, j, none⟩ v n hne).trans h
theorem ownsN_ct {base : Nat} {e : TypeId} {size : Nat} {A B : World} {v : Value} {n : Nat} {xs : List Value} (h : A.ownsRow base e size v n xs) (c : CT A B) : B.ownsRow base e size v n xs := by
  obtain ⟨h1, h2 | ⟨g, cap, cur, hv, hg, hh, r⟩⟩ := h
  · exact ⟨h1, .inl h2⟩
  · exact ⟨h1, .inr ⟨g, cap, cur, hv, hg, c.2 _ _ hh rfl, r⟩⟩
theorem ownsN_mono {base base' : Nat} {e : TypeId} {size : Nat} {A : World} {v : Value} {n : Nat} {xs : List Value} (h : A.ownsRow base e size v n xs) (hb : base' ≤ base) : A.ownsRow base' e size v n xs := by
  obtain ⟨h1, h2 | ⟨g, cap, cur, hv, hg, r⟩⟩ := h
  · exact ⟨h1, .inl h2⟩
  · exact ⟨h1, .inr ⟨g, cap, cur, hv, by omega, r⟩⟩
theorem ownsN_slice {base : Nat} {e : TypeId} {size : Nat} {A : World} {v : Value} {n : Nat} {xs : List Value} (h : A.ownsRow base e size v n xs) : ∃ sa cap, v = .slice sa n cap := by
  obtain ⟨h1, ⟨rfl, rfl⟩ | ⟨g, cap, cur, hv, hg, r⟩⟩ := h
  · exact ⟨_, _, rfl⟩
  · exact ⟨_, _, hv⟩
theorem new_u16 (W : World) (xs : List Value) : ∀ j u, xs[j]? = some u → (W.alloc (.cells xs.toArray 22)).cell? ((⟨W.heap.size, 0, none⟩ : Addr).add j) = some u := fun j u hj => by
  rw [show (⟨W.heap.size, 0, none⟩ : Addr).add j = ⟨W.heap.size, j, none⟩ from by unfold Addr.add; split <;> simp_all, block_cell (heap_alloc_new W _) j]
  simpa using hj
theorem info_u16 : (Tryd.prog.info? 22).map (fun i => (i.zero, i.size, i.bytes)) = some (some (.int .u16 0), 1, 2) := by kernel_rfl

def u16s (l : List Nat) : List Value := l.map (fun (n : Nat) => Value.int .u16 (n : Int))
theorem u16s_snoc (l : List Nat) (x : Nat) : u16s (l ++ [x]) = u16s l ++ [.int .u16 (x : Int)] := by unfold u16s; simp
def usf (low high : Nat) (ws : Nat → Nat) (l : List Nat) : List Nat := l.filter (hsP low high ws)
def usd (low high : Nat) (ws : Nat → Nat) : List Nat := usf low high ws (nums low high)
theorem usf_yes {low high : Nat} {ws : Nat → Nat} {pre : List Nat} {x : Nat} (h : hsP low high ws x = true) : usf low high ws (pre ++ [x]) = usf low high ws pre ++ [x] := by unfold usf; simp [h]
theorem usf_no {low high : Nat} {ws : Nat → Nat} {pre : List Nat} {x : Nat} (h : hsP low high ws x = false) : usf low high ws (pre ++ [x]) = usf low high ws pre := by unfold usf; simp [h]

/-- What Used keeps while it gathers. -/
def PUe (rb b low high : Nat) (ws : Nat → Nat) (pre : List Nat) (W : World) : Prop := W.heap[rb]? = some (.cells #[.pointer (some ⟨b, 0, none⟩)] 24 (0, 0)) ∧ ∃ v, W.heap[rb + 1]? = some (.cells #[v] 23 (0, 0)) ∧ W.ownsRow (rb + 1 + 1 + 1) 22 1 v (usf low high ws pre).length (u16s (usf low high ws pre))
theorem PUe.ct {rb b low high : Nat} {ws : Nat → Nat} {pre : List Nat} {A B : World} (h : PUe rb b low high ws pre A) (c : CT A B) : PUe rb b low high ws pre B := by
  obtain ⟨h0, v, h1, h2⟩ := h
  exact ⟨c.2 _ _ h0 rfl, v, c.2 _ _ h1 rfl, ownsN_ct h2 c⟩

set_option maxRecDepth 100000 in
set_option maxHeartbeats 4000000 in
theorem used_any (base b low high : Nat) (ws : Nat → Nat) (hlh : low ≤ high) (hh : high < 65536) (w : World) (hT : PB base w b (low : Int) (high : Int) ws) :
    Calls Tryd.prog 12 #[.pointer (some ⟨b, 0, none⟩)] w fun e w' => Later w w' ∧ ∃ v, e = .returned v ∧ w'.ownsRow w.heap.size 22 1 v (usd low high ws).length (u16s (usd low high ws)) := by
  have hbl := hT.lt
  have hb4 : Later w (((w.alloc (.cells #[.pointer (some ⟨b, 0, none⟩)] 24)).alloc (.cells #[.slice none 0 0] 23)).alloc (.cells #[.pointer (some ⟨b, 0, none⟩)] 24)) := (((Below.refl _ _).alloc (Nat.le_refl _) _).alloc (by simp) _).alloc (by simp <;> omega) _
  have c0 : (((w.alloc (.cells #[.pointer (some ⟨b, 0, none⟩)] 24)).alloc (.cells #[.slice none 0 0] 23)).alloc (.cells #[.pointer (some ⟨b, 0, none⟩)] 24)).heap[w.heap.size]? = some (.cells #[.pointer (some ⟨b, 0, none⟩)] 24) := (Below.heap_alloc _ _ _ (by simp <;> omega)).trans ((Below.heap_alloc _ _ _ (by simp)).trans (heap_alloc_new w _))
  have c1 : (((w.alloc (.cells #[.pointer (some ⟨b, 0, none⟩)] 24)).alloc (.cells #[.slice none 0 0] 23)).alloc (.cells #[.pointer (some ⟨b, 0, none⟩)] 24)).heap[w.heap.size + 1]? = some (.cells #[.slice none 0 0] 23) := by
    have := heap_alloc_new (w.alloc (.cells #[.pointer (some ⟨b, 0, none⟩)] 24)) (.cells #[.slice none 0 0] 23)
    rw [World.size_alloc] at this
    exact (Below.heap_alloc _ _ _ (by simp)).trans this
  have c2 : (((w.alloc (.cells #[.pointer (some ⟨b, 0, none⟩)] 24)).alloc (.cells #[.slice none 0 0] 23)).alloc (.cells #[.pointer (some ⟨b, 0, none⟩)] 24)).heap[w.heap.size + 1 + 1]? = some (.cells #[.pointer (some ⟨b, 0, none⟩)] 24) := by
    have := heap_alloc_new ((w.alloc (.cells #[.pointer (some ⟨b, 0, none⟩)] 24)).alloc (.cells #[.slice none 0 0] 23)) (.cells #[.pointer (some ⟨b, 0, none⟩)] 24)
    simpa only [World.size_alloc] using this
  have hs4 : (((w.alloc (.cells #[.pointer (some ⟨b, 0, none⟩)] 24)).alloc (.cells #[.slice none 0 0] 23)).alloc (.cells #[.pointer (some ⟨b, 0, none⟩)] 24)).heap.size = w.heap.size + 1 + 1 + 1 := by simp
  have C0 := hide c0
  have C1 := hide c1
  have C2 := hide c2
  have HS4 := hide hs4
  clear c0 c1 c2 hs4
  refine (callsIn_wide (n := 5)).1 ?_
  refine callsIn_of_wp_marks Tryd.func12 rfl trivial ?_ rfl
  simp only [Tryd.ntmps12, List.size_toArray, List.length_cons, List.length_nil, Nat.reduceAdd, Nat.reduceSub, Array.replicate_succ, Array.replicate_zero, List.push_toArray, List.append_toArray, List.nil_append, List.cons_append]
  gi_wp2_with (refine ⟨trivial, ?_⟩; gi_at_call 24; refine (numbers_in _ _ _).mono ?_; rintro e w' ⟨rfl, rfl⟩)
  generalize (((w.alloc (.cells #[.pointer (some ⟨b, 0, none⟩)] 24)).alloc (.cells #[.slice none 0 0] 23)).alloc (.cells #[.pointer (some ⟨b, 0, none⟩)] 24)) = w4 at *
  have hs4 : w4.heap.size = w.heap.size + 1 + 1 + 1 := HS4.out
  have hT4 := hT.later hb4
  refine wpIn_rangeX (w := w4) rfl (by omega) (gf := 35) (lb := #[.pointer (some ⟨w.heap.size + 1 + 1, 0, none⟩)]) rfl trivial (enters_of Tryd.func35 (by kernel_rfl) rfl)
    (numb_gen 4 (by omega) (w.heap.size + 1 + 1) b w.heap.size low high hlh hh w4 C2.out (by omega) hT4.low hT4.high)
    (fun h k => h.trans k) (fun W l o o' hl ho hc hw => kl_put (by omega) (by omega) (by omega) hl ho hc hw) (fun hA hL => KL.of hL (by omega)) (fun _ _ _ _ h _ => h) (fun _ _ _ _ _ _ _ _ _ h => h) (fun _ => rfl)
    (fun pre W => PUe w.heap.size b low high ws pre W ∧ Below w.heap.size w W) (fun pre W => False)
    (OwnFrom.and (fun s A B row hs hg hr => hs.ct (CT.row hg (fun r e => (hr r e).2))) (ownFrom_below (Nat.le_refl _) (by omega)))
    (fun s A B h l => ⟨h.1.ct (CT.of l), h.2.trans (l.mono h.2.size)⟩)
    (fun s A B row hs hg hr => hs)
    ⟨⟨C0.out, _, C1.out, World.ownsRow_nil _ _ _ _⟩, hb4⟩
    (fun x a' W => a' = { tmps := #[.pointer (some ⟨b, 0, none⟩), .pointer (some ⟨w.heap.size, 0, none⟩), .slice none 0 0, .pointer (some ⟨w.heap.size + 1, 0, none⟩), .int .u16 (x : Int), .pointer (some ⟨b, 0, none⟩), .bool false, .pointer (some ⟨b, 0, none⟩), .func (.func 35) #[] #[.pointer (some ⟨w.heap.size + 1 + 1, 0, none⟩)], .int .u16 (x : Int), undef, undef, undef, undef, undef, undef, undef, undef], defers := [] })
    (fun x a' W l o o' hl ho hc h => h) ?assign ?body ?done ?stop
  case assign =>
    rintro l pre x W K hsz _ hX hK
    dsimp only [encN]
    gi_wp2
    exact hK _ _ (Later.refl _) rfl
  case body =>
    rintro l pre x a' W ⟨⟨h0, v, h1, hOw⟩, hbW⟩ hX rfl
    have hxm : low ≤ x ∧ x ≤ high := by
      obtain ⟨rest, e⟩ := hX
      have : x ∈ nums low high := by rw [← e]; simp
      exact (mem_nums hlh).1 this
    have hpl : pre.length ≤ 70000 := by
      obtain ⟨rest, e⟩ := hX
      have := congrArg List.length e
      rw [nums_length] at this
      simp at this
      omega
    have hHP := (((callsIn_wide (n := 2)).2 (hasP_any base b low high ws x W (hT.below hbW hbl) (by omega))).inRound l)
    have K0 := block_cell h0
    have hbsz := hbW.size
    have hxu : (x : Int) ≤ 65535 := by omega
    cases hno : hsP low high ws x with
    | false =>
      rw [hno] at hHP
      have HHP := hide hHP
      clear hHP hxm
      gi_wp2
      refine ⟨trivial, HHP.out.mono ?_⟩
      rintro e W1 ⟨rfl, l1⟩
      gi_wp2
      exact ⟨⟨l1.size, fun i o hi ho hc => later_keep l1 ho⟩, KL.of l1 hbsz, ⟨later_keep l1 h0, v, later_keep l1 h1, by rw [usf_no hno]; exact ownsN_ct hOw (CT.of l1)⟩, hbW.trans (l1.mono hbsz)⟩
    | true =>
      rw [hno] at hHP
      have HHP := hide hHP
      have hul : (usf low high ws pre).length ≤ 70000 := Nat.le_trans (List.length_filter_le _ _) hpl
      clear hHP hxm
      gi_wp2
      refine ⟨trivial, HHP.out.mono ?_⟩
      rintro e W1 ⟨rfl, l1⟩
      have hHB : Hid (∀ i o, W.heap[i]? = some o → W1.heap[i]? = some o) := fun i o ho => later_keep l1 ho
      have hbW1 : Below w.heap.size w W1 := hbW.trans (l1.mono hbsz)
      have g0 := later_keep l1 h0
      have hob := later_keep l1 h1
      have hOw1 := ownsN_ct hOw (CT.of l1)
      have hbs1 := hbW1.size
      have hl1s : W.heap.size ≤ W1.heap.size := Below.size l1
      have L1 := hide l1
      have H1 := hide h1
      have H0 := hide h0
      clear hOw h1 h0 K0 l1
      have Kv := block_cell hob
      have Fv := block_frozen hob
      have hobl := (Array.getElem?_eq_some_iff.1 hob).1
      have hslc : ∃ sa cap, v = .slice sa (usf low high ws pre).length cap := ownsN_slice hOw1
      obtain ⟨sa, cap, rfl⟩ := hslc
      obtain ⟨i0, hi, hz0, hz1, hz2⟩ := info_parts info_u16
      have la : Later W1 (W1.alloc (.cells #[Value.int .u16 (x : Int)] 22)) := (Below.refl _ W1).alloc (Nat.le_refl _) _
      have hrowA := ownsN_ct hOw1 (CT.of la)
      have hnews : ∀ j u, [Value.int .u16 (x : Int)][j]? = some u → (W1.alloc (.cells #[Value.int .u16 (x : Int)] 22)).cell? ((⟨W1.heap.size, 0, none⟩ : Addr).add j) = some u := new_u16 W1 [Value.int .u16 (x : Int)]
      have hbl2 : ∀ r, (Value.slice sa (usf low high ws pre).length cap).ownBlock = some r → ∃ cur, (W1.alloc (.cells #[Value.int .u16 (x : Int)] 22)).heap[r]? = some (.cells cur 22 (0, 0)) ∧ w.heap.size + 1 + 1 + 1 ≤ r := fun r hr => by
        rcases hrowA.2 with ⟨e, _⟩ | ⟨g, cp, cur, e, hg, hh, _⟩
        · rw [e] at hr; cases hr
        · rw [e] at hr; cases hr
          exact ⟨cur, hh, hg⟩
      have HNW := hide hnews
      have HRA := hide hrowA
      have HB2 := hide hbl2
      clear hnews hrowA hbl2 hOw1
      gi_wp2_with (gi_at_builtin; refine wpListIn_append_own _ rfl (.tmp 13) (.tmp 15) 23 rfl (w.heap.size + 1 + 1 + 1) 22 i0 (.int .u16 0) 1 2 Tryd.underlying23 hi hz0 hz1 hz2 rfl (by decide) _ (usf low high ws pre).length (u16s (usf low high ws pre)) rfl HRA.out ⟨W1.heap.size, 0, none⟩ 1 1 [Value.int .u16 (x : Int)] rfl rfl HNW.out (by intro u hu; simp at hu; subst hu; rfl) (by simp only [maxLen]; omega) (by omega) (by simp; omega) ?_; intro v2 W2 hrow2 hg2 hnn; obtain ⟨g2, cp2, rfl⟩ := ownsRow_succ hrow2; have hob2 := (hg2.block (w.heap.size + 1) (by simp; omega) (fun e => by obtain ⟨_, _, h⟩ := HB2.out _ e.symm; omega)).trans ((Below.heap_alloc W1 _ (w.heap.size + 1) hobl).trans hob); have Kv2 := block_cell hob2; have Fv2 := block_frozen hob2)
      have hkeep : ∀ i o, W1.heap[i]? = some o → some i ≠ (Value.slice sa (usf low high ws pre).length cap).ownBlock → i ≠ w.heap.size + 1 → (W2.setCell ⟨w.heap.size + 1, 0, none⟩ (.slice (some ⟨g2, 0, none⟩) ((usf low high ws pre).length + 1) cp2)).heap[i]? = some o := fun i o hi h1 h2 =>
        hset_ne ((hg2.block i (by have := (Array.getElem?_eq_some_iff.1 hi).1; simp; omega) h1).trans ((Below.heap_alloc W1 _ i (Array.getElem?_eq_some_iff.1 hi).1).trans hi)) h2
      have hsz2 : W1.heap.size + 1 ≤ W2.heap.size := by have := hg2.size; simpa using this
      have hown2 : (W2.setCell ⟨w.heap.size + 1, 0, none⟩ (.slice (some ⟨g2, 0, none⟩) ((usf low high ws pre).length + 1) cp2)).ownsRow (w.heap.size + 1 + 1 + 1) 22 1 (.slice (some ⟨g2, 0, none⟩) ((usf low high ws pre).length + 1) cp2) ((usf low high ws pre).length + 1) (u16s (usf low high ws pre) ++ [Value.int .u16 (x : Int)]) := by
        refine ⟨hrow2.1, hrow2.2.imp id ?_⟩
        rintro ⟨g, cp, cur, e1, e2, e3, r⟩
        exact ⟨g, cp, cur, e1, e2, hset_ne e3 (by omega), r⟩
      have hnb : ∀ r, r < w.heap.size + 1 + 1 + 1 → some r ≠ (Value.slice sa (usf low high ws pre).length cap).ownBlock := fun r hr e => by obtain ⟨_, _, h⟩ := HB2.out _ e.symm; omega
      have hbn : Below w.heap.size W1 (W2.setCell ⟨w.heap.size + 1, 0, none⟩ (.slice (some ⟨g2, 0, none⟩) ((usf low high ws pre).length + 1) cp2)) := ⟨hg2.os, hg2.tape, hg2.output, by simp; omega, fun i hi => by
        cases hh : W1.heap[i]? with
        | none => have := Array.getElem?_eq_none_iff.1 hh; omega
        | some o => exact hkeep i o hh (hnb i (by omega)) (by omega)⟩
      have hbnW : Below w.heap.size W (W2.setCell ⟨w.heap.size + 1, 0, none⟩ (.slice (some ⟨g2, 0, none⟩) ((usf low high ws pre).length + 1) cp2)) := (L1.out.mono hbsz).trans hbn
      refine ⟨⟨hbnW.size, fun i o hi ho hc => hkeep i o (later_keep L1.out ho) (fun e => ?_) (by omega)⟩, ⟨⟨hbnW, fun o ho => hkeep _ o (later_keep L1.out ho) (hnb _ (by omega)) (by omega)⟩, fun i hi v hv => (hbnW.cell (p := ⟨b, i, none⟩) hbl).trans hv⟩, ⟨hkeep _ _ g0 (hnb _ (by omega)) (by omega), _, heap_set1 hob2 0 _, ?_⟩, hbW.trans hbnW⟩
      · obtain ⟨c2, h2, _⟩ := HB2.out i e.symm
        rw [Below.heap_alloc W1 _ i (Array.getElem?_eq_some_iff.1 (later_keep L1.out ho)).1, later_keep L1.out ho] at h2
        cases h2
        cases hc
      · rw [usf_yes hno, List.length_append, List.length_singleton, u16s_snoc]
        exact hown2
  case done =>
    rintro D xs W hD rfl ⟨⟨h0, v, h1, hOw⟩, hbW⟩ hK
    have K1 := block_cell h1
    gi_wp2
    refine ⟨by simp, .inl ⟨_, _, rfl, run_takeDeferred hK, ?_⟩⟩
    exact ⟨v, by simp [results, Tryd.results12, go_sem], hbW.trans (belowK_b (w := w) (Nat.le_refl _) W D _ _ (by omega) hK rfl rfl), v, rfl, ownsN_mono (ownsN_ct hOw (CT.put hK rfl)) (by omega)⟩
  case stop =>
    rintro D pre W hD hSp hF hK
    exact hF.elim
end Go.Proofs.YtfompbpllndmfaaDoor
