/- Package segs: the options of a header's bytes. -/
import Derived.Test.YtclkfmdlgffbeaaSM
namespace Go.Proofs.Ytclkfmdlgffbeaa
open Go.RowKit Go.Shelf
set_option maxRecDepth 100000
attribute [local go_sem] Oper.semAt_some
set_option linter.unusedVariables false
set_option linter.unusedSimpArgs false

set_option maxRecDepth 100000 in
set_option maxHeartbeats 2000000 in
theorem walk1_nil (n : Nat) (l Bs : Nat) (a : Option Addr) (cap : Nat) (J : List It → World → Prop) (W : World) (hBs : W.cell? ⟨Bs, 0, none⟩ = some (.slice a 0 cap)) (h0 : J [] W) :
    CallsIn Fence.wide n Try.prog 64 #[.func (.yield l) #[] #[], .pointer (some ⟨Bs, 0, none⟩)] W fun e W' => (∃ v, e = .returned v) ∧ J [] W' := by
  refine callsIn_of_wp Try.func64 rfl trivial ?_ rfl
  simp only [Try.ntmps64, List.size_toArray, List.length_cons, List.length_nil, Nat.reduceAdd, Nat.reduceSub, Array.replicate_succ, Array.replicate_zero, List.push_toArray, List.append_toArray, List.nil_append, List.cons_append]
  refine wpIn_wide.2 (wp_scope_jumps 0 (fun a w => False) (fun _ _ => 0) rfl ((wpIn_wide (n := n)).1 ?_) (fun a w hJ1 => hJ1.elim))
  gi_wp2
  gi_loopw [3] (fun i wr => i = .int .i64 0 ∧ J [] wr ∧ wr.cell? ⟨Bs, 0, none⟩ = some (.slice a 0 cap)) (fun _ _ => 0)
  case atStart => exact ⟨rfl, h0, hBs⟩
  case round =>
    obtain ⟨rfl, hJs, hbx⟩ := hrel
    gi_wp2
    rw [jump_ret]
    refine bodyPost_ret (results_none rfl _ _ _) rfl ?_
    exact ⟨⟨_, rfl⟩, hJs⟩

theorem walk_in (n : Nat) (a : Option Addr) (len cap : Nat) (w : World) :
    CallsIn Fence.wide n Try.prog 50 #[.slice a len cap] w fun e w' => e = .returned (.func (.func 64) #[] #[.pointer (some ⟨w.heap.size, 0, none⟩)]) ∧ w' = w.alloc (.cells #[.slice a len cap] 24) := by
  refine callsIn_of_wp Try.func50 rfl trivial ?_ rfl
  simp only [Try.ntmps50, List.size_toArray, List.length_cons, List.length_nil, Nat.reduceAdd, Nat.reduceSub, Array.replicate_succ, Array.replicate_zero, List.push_toArray, List.append_toArray, List.nil_append, List.cons_append]
  gi_wp2
  go_ret
  exact ⟨rfl, rfl⟩

theorem walk_gen (n : Nat) (hn : 1 ≤ n) (Bs n₀ n₁ : Nat) (sv : Value) (zs : List Int) (hB : Mt.By zs) (hl : zs.length ≤ 40) (w : World) (hBl : Bs < w.heap.size) (hn₀ : n₀ ≤ w.heap.size) (hn₁ : n₁ ≤ w.heap.size)
    (hc : w.cell? ⟨Bs, 0, none⟩ = some sv) (hI : Rd n₀ w sv zs) :
    GenX Fence.wide n Try.prog 64 #[.pointer (some ⟨Bs, 0, none⟩)] encI (KB n₀ Bs) (XI n₁ zs.length) (SI zs) (SpI zs) w := fun l J Jx W hW hJ hY h0 => by
  have hc' := (hW.cell (p := ⟨Bs, 0, none⟩) hBl).trans hc
  rcases hI.below (hW.mono hn₀) with ⟨a, cap, rfl, rfl, _, _⟩ | ⟨b, off, cap, rfl, _, hl', hm, hb, hcs⟩
  · exact (walk1_nil n l Bs a cap J W hc' h0).mono fun e W' ⟨he, hj⟩ => ⟨he, .inl ⟨[], .inl ⟨[], rfl, rfl⟩, hj⟩⟩
  · exact walk1_in n hn l Bs n₀ n₁ b off cap zs hB hl' hm (by omega) hb J Jx hJ hY W (Nat.le_trans hn₁ hW.size) hc' (Nat.lt_of_lt_of_le hBl hW.size) (Nat.le_trans hn₀ hW.size) hcs h0

theorem info_opt : (Try.prog.info? 57).map (fun i => (i.zero, i.size, i.bytes)) = some (some (.agg #[.int .u8 0, .slice none 0 0]), 2, 32) := by kernel_rfl
theorem heap_set_ne {W : World} {n m j : Nat} {v : Value} {o : Obj} (h : W.heap[n]? = some o) (hne : n ≠ m) : (W.setCell ⟨m, j, none⟩ v).heap[n]? = some o := (Below.heap_setCell W ⟨m, j, none⟩ v n hne).trans h
theorem KeepsFrom.set2 (B : Nat) (W : World) (p q : Addr) (u v : Value) : KeepsFrom B W ((W.setCell p u).setCell q v) := ((KeepsOthers.setCell W p u).from B).trans ((KeepsOthers.setCell _ q v).from B)

/-- What the reader keeps while it gathers. -/
def PI (rb base : Nat) (pre : List It) (W : World) : Prop :=
  (∃ os v, pre.map (·.2) = os.map some ∧ W.heap[rb + 1 + 1]? = some (.cells #[v] 27 (0, 0)) ∧ OwO base W v os) ∧ W.heap[rb]? = some (.cells #[.slice none 0 0] 27 (0, 0)) ∧ W.heap[rb + 1]? = some (.cells #[.bool false] 4 (0, 0))
theorem PI.ck {rb base : Nat} {pre : List It} {A B : World} (h : PI rb base pre A) (c : CK A B) : PI rb base pre B := by
  obtain ⟨⟨os, v, h1, h2, h3⟩, h4, h5⟩ := h
  exact ⟨⟨os, v, h1, c.2 _ _ h2 rfl, h3.ck c⟩, c.2 _ _ h4 rfl, c.2 _ _ h5 rfl⟩
/-- The end by a wrong one. -/
def PX (rb : Nat) (pre : List It) (W : World) : Prop := (∃ l v, pre = l ++ [(v, none)]) ∧ W.heap[rb]? = some (.cells #[.slice none 0 0] 27 (0, 0)) ∧ W.heap[rb + 1]? = some (.cells #[.bool false] 4 (0, 0))
theorem PX.ck {rb : Nat} {pre : List It} {A B : World} (h : PX rb pre A) (c : CK A B) : PX rb pre B := ⟨h.1, c.2 _ _ h.2.1 rfl, c.2 _ _ h.2.2 rfl⟩
theorem XI.ck {n₁ N : Nat} {pre : List It} {x : It} {A B : World} (h : XI n₁ N pre x A) (c : CK A B) : XI n₁ N pre x B := by
  obtain ⟨v, o⟩ := x
  cases o with
  | none => exact h
  | some o =>
    obtain ⟨h0, s, h1, h2⟩ := h
    exact ⟨h0, s, h1, h2.ck c⟩

set_option maxRecDepth 100000 in
set_option maxHeartbeats 4000000 in
theorem readOptions_any (sv : Value) (zs : List Int) (hB : Mt.By zs) (hl : zs.length ≤ 40) (w : World) (hI : Rd w.heap.size w sv zs) :
    Calls Try.prog 21 #[sv] w fun e w' => Below w.heap.size w w' ∧ ((opts zs = none ∧ e = .returned (.tuple #[.slice none 0 0, .bool false])) ∨ ∃ os v, opts zs = some os ∧ e = .returned (.tuple #[v, .bool true]) ∧ OwO w.heap.size w' v os) := by
  obtain ⟨a, cap, rfl, _⟩ := hI.slice
  refine (callsIn_wide (n := 5)).1 ?_
  refine callsIn_of_wp_marks Try.func21 rfl trivial ?_ rfl
  simp only [Try.ntmps21, List.size_toArray, List.length_cons, List.length_nil, Nat.reduceAdd, Nat.reduceSub, Array.replicate_succ, Array.replicate_zero, List.push_toArray, List.append_toArray, List.nil_append, List.cons_append]
  have hb4 : Below w.heap.size w ((((w.alloc (.cells #[.slice none 0 0] 27)).alloc (.cells #[.bool false] 4)).alloc (.cells #[.slice none 0 0] 27)).alloc (.cells #[.slice a zs.length cap] 24)) := ((((Below.refl _ _).alloc (Nat.le_refl _) _).alloc (by simp) _).alloc (by simp <;> omega) _).alloc (by simp <;> omega) _
  have c0 : ((((w.alloc (.cells #[.slice none 0 0] 27)).alloc (.cells #[.bool false] 4)).alloc (.cells #[.slice none 0 0] 27)).alloc (.cells #[.slice a zs.length cap] 24)).heap[w.heap.size]? = some (.cells #[.slice none 0 0] 27) := (Below.heap_alloc _ _ _ (by simp <;> omega)).trans ((Below.heap_alloc _ _ _ (by simp <;> omega)).trans ((Below.heap_alloc _ _ _ (by simp)).trans (heap_alloc_new w _)))
  have c1 : ((((w.alloc (.cells #[.slice none 0 0] 27)).alloc (.cells #[.bool false] 4)).alloc (.cells #[.slice none 0 0] 27)).alloc (.cells #[.slice a zs.length cap] 24)).heap[w.heap.size + 1]? = some (.cells #[.bool false] 4) := by
    have := heap_alloc_new (w.alloc (.cells #[.slice none 0 0] 27)) (.cells #[.bool false] 4)
    rw [World.size_alloc] at this
    exact (Below.heap_alloc _ _ _ (by simp <;> omega)).trans ((Below.heap_alloc _ _ _ (by simp)).trans this)
  have c2 : ((((w.alloc (.cells #[.slice none 0 0] 27)).alloc (.cells #[.bool false] 4)).alloc (.cells #[.slice none 0 0] 27)).alloc (.cells #[.slice a zs.length cap] 24)).heap[w.heap.size + 1 + 1]? = some (.cells #[.slice none 0 0] 27) := by
    have := heap_alloc_new ((w.alloc (.cells #[.slice none 0 0] 27)).alloc (.cells #[.bool false] 4)) (.cells #[.slice none 0 0] 27)
    simp only [World.size_alloc] at this
    exact (Below.heap_alloc _ _ _ (by simp)).trans this
  have c3 : ((((w.alloc (.cells #[.slice none 0 0] 27)).alloc (.cells #[.bool false] 4)).alloc (.cells #[.slice none 0 0] 27)).alloc (.cells #[.slice a zs.length cap] 24)).heap[w.heap.size + 1 + 1 + 1]? = some (.cells #[.slice a zs.length cap] 24) := by
    have := heap_alloc_new (((w.alloc (.cells #[.slice none 0 0] 27)).alloc (.cells #[.bool false] 4)).alloc (.cells #[.slice none 0 0] 27)) (.cells #[.slice a zs.length cap] 24)
    simpa only [World.size_alloc] using this
  have hs4 : ((((w.alloc (.cells #[.slice none 0 0] 27)).alloc (.cells #[.bool false] 4)).alloc (.cells #[.slice none 0 0] 27)).alloc (.cells #[.slice a zs.length cap] 24)).heap.size = w.heap.size + 1 + 1 + 1 + 1 := by simp
  have C0 := hide c0
  have C1 := hide c1
  have C2 := hide c2
  have C3 := hide c3
  have HS4 := hide hs4
  clear c0 c1 c2 c3 hs4
  gi_wp2_with (refine ⟨trivial, ?_⟩; gi_at_call 50; refine (walk_in _ _ _ _ _).mono ?_; rintro e w' ⟨rfl, rfl⟩)
  generalize (((w.alloc (.cells #[.slice none 0 0] 27)).alloc (.cells #[.bool false] 4)).alloc (.cells #[.slice none 0 0] 27)).alloc (.cells #[.slice a zs.length cap] 24) = w4 at *
  have hs4 : w4.heap.size = w.heap.size + 1 + 1 + 1 + 1 := HS4.out
  refine wpIn_rangeX (w := w4) rfl (by omega) (gf := 64) (lb := #[.pointer (some ⟨w.heap.size + 1 + 1 + 1, 0, none⟩)]) rfl trivial (enters_of Try.func64 (by kernel_rfl) rfl)
    (walk_gen 4 (by omega) (w.heap.size + 1 + 1 + 1) w.heap.size (w.heap.size + 1 + 1 + 1 + 1) _ zs hB hl w4 (by omega) (by omega) (by omega) (block_cell C3.out 0) (hI.below hb4))
    KB.trans (kb_b (by omega) (by omega)) (fun hA hL => KB.later (by omega) (by omega) hL) (fun _ _ _ _ h l => h.ck (CK.of l)) (fun _ _ _ _ _ _ _ ho hc h => h.ck (CK.put ho hc)) (fun _ => rfl)
    (fun pre W => PI w.heap.size (w.heap.size + 1 + 1 + 1 + 1) pre W ∧ Below w.heap.size w W) (fun pre W => PX w.heap.size pre W ∧ Below w.heap.size w W)
    (OwnFrom.and (fun s A B row hs hg hr => hs.ck (CK.row hg (fun r e => (hr r e).2))) (ownFrom_below (Nat.le_refl _) (by omega)))
    (fun s A B h l => ⟨h.1.ck (CK.of l), h.2.trans (l.mono h.2.size)⟩)
    (OwnFrom.and (fun s A B row hs hg hr => hs.ck (CK.row hg (fun r e => (hr r e).2))) (ownFrom_below (Nat.le_refl _) (by omega)))
    ⟨⟨⟨[], .slice none 0 0, rfl, C2.out, OwO.nil _ _⟩, C0.out, C1.out⟩, hb4⟩
    (fun x a' W => ∃ (bx : Nat) (k : Int) (sa : Option Addr) (sl sc : Nat), w.heap.size + 1 + 1 + 1 + 1 ≤ bx ∧ x.1 = .agg #[.int .u8 k, .slice sa sl sc] ∧ W.heap[bx]? = some (.cells #[.int .u8 k, .slice sa sl sc] 57 (0, 0)) ∧ a' = { tmps := #[.slice a zs.length cap, undef, .pointer (some ⟨w.heap.size, 0, none⟩), .pointer (some ⟨w.heap.size + 1, 0, none⟩), .pointer (some ⟨w.heap.size + 1 + 1, 0, none⟩), .pointer (some ⟨bx, 0, none⟩), .bool x.2.isSome, .slice a zs.length cap, .func (.func 64) #[] #[.pointer (some ⟨w.heap.size + 1 + 1 + 1, 0, none⟩)], x.1, .bool x.2.isSome, undef, undef, undef, undef, undef, undef, undef], defers := [] })
    (fun x a' W l o o' hl ho hc h => by obtain ⟨bx, k, sa, sl, sc, h1, h2, h3, h4⟩ := h; exact ⟨bx, k, sa, sl, sc, h1, h2, (CK.put ho hc).2 _ _ h3 rfl, h4⟩) ?assign ?body ?done ?stop
  case assign =>
    rintro l pre x W K hsz _ hX hK
    obtain ⟨k, sa, sl, sc, hxv⟩ : ∃ (k : Int) (sa : Option Addr) (sl sc : Nat), x.1 = .agg #[.int .u8 k, .slice sa sl sc] := by
      obtain ⟨v, o⟩ := x
      cases o with
      | none => exact ⟨_, _, _, _, hX.2⟩
      | some o =>
        obtain ⟨_, s, h1, h2⟩ := hX
        obtain ⟨sa, sc, rfl, _, _⟩ := h2.slice
        exact ⟨_, _, _, _, h1⟩
    obtain ⟨v, o⟩ := x
    dsimp only at hxv
    subst hxv
    dsimp only [encI]
    gi_wp2
    refine hK _ _ ?_ ⟨W.heap.size, k, sa, sl, sc, by omega, rfl, heap_alloc_new _ _, rfl⟩
    exact (Below.refl _ W).alloc (Nat.le_refl _) _
  case body =>
    rintro l pre ⟨v, o⟩ a' W ⟨⟨⟨os, vr, hos, hob, hOw⟩, hr0, hr1⟩, hbW⟩ hX ⟨bx, k, sa, sl, sc, hbx, hxv, hbo, rfl⟩
    dsimp only at hxv
    subst hxv
    have hbsz := hbW.size
    have Kb := block_cell hbo
    have Kv := block_cell hob
    have Fv := block_frozen hob
    have hobl := (Array.getElem?_eq_some_iff.1 hob).1
    have hbl := (Array.getElem?_eq_some_iff.1 hbo).1
    cases o with
    | none =>
      have K0 := block_cell hr0
      have K1 := block_cell hr1
      have F0 := block_frozen hr0
      have F1 := block_frozen hr1
      dsimp only [Option.isSome]
      gi_wp2
      refine ⟨KeepsFrom.set2 _ _ _ _ _ _, ⟨⟨_, _, rfl⟩, ?_, ?_⟩, ?_⟩
      · exact (heap_set_ne (heap_set1 hr0 0 _) (by simp))
      · exact (heap_set1 (heap_set_ne hr1 (by simp)) 0 _)
      · exact (hbW.setCell (p := ⟨w.heap.size, 0, none⟩) (Nat.le_refl _) _).setCell (p := ⟨w.heap.size + 1, 0, none⟩) (Nat.le_succ _) _
    | some o =>
      obtain ⟨hpl, s, hsv, hOs⟩ := hX
      dsimp only at hsv hOs
      obtain ⟨kd, dt⟩ := o
      simp at hsv
      obtain ⟨rfl, rfl⟩ := hsv
      dsimp only at hOs
      dsimp only [Option.isSome]
      obtain ⟨ss, hsl, hrow, hdat⟩ := hOw
      obtain ⟨i0, hi, hz0, hz1, hz2⟩ := info_parts info_opt
      have hlo : os.length ≤ 40 := by have := congrArg List.length hos; simp at this; omega
      have hcka : CK W (W.alloc (.cells #[.int .u8 k, .slice sa sl sc] 57)) := CK.of ((Below.refl _ W).alloc (Nat.le_refl _) _)
      have hrowA := ownsRow_ck hrow hcka
      have hnews : ∀ j u, [Value.int .u8 k, .slice sa sl sc][j]? = some u → (W.alloc (.cells #[.int .u8 k, .slice sa sl sc] 57)).cell? ((⟨W.heap.size, 0, none⟩ : Addr).add j) = some u := fun j u hj => by
        rw [show (⟨W.heap.size, 0, none⟩ : Addr).add j = ⟨W.heap.size, j, none⟩ from by unfold Addr.add; split <;> simp_all, block_cell (heap_alloc_new W _) j]
        simpa using hj
      have hbl2 : ∀ r, vr.ownBlock = some r → ∃ cur, (W.alloc (.cells #[.int .u8 k, .slice sa sl sc] 57)).heap[r]? = some (.cells cur 57 (0, 0)) ∧ w.heap.size + 1 + 1 + 1 + 1 ≤ r := fun r hr => by
        rcases hrowA.2 with ⟨rfl, _⟩ | ⟨g, cp, cur, rfl, hg, hh, _⟩
        · cases hr
        · cases hr
          exact ⟨cur, hh, hg⟩
      have HNW := hide hnews
      have HRA := hide hrowA
      have HB2 := hide hbl2
      clear hnews hrowA hbl2 hrow
      gi_wp2_with (gi_at_builtin; refine wpListIn_append_own _ rfl (.tmp 13) (.tmp 15) 27 rfl (w.heap.size + 1 + 1 + 1 + 1) 57 i0 (.agg #[.int .u8 0, .slice none 0 0]) 2 32 Try.underlying27 hi hz0 hz1 hz2 rfl (by decide) _ os.length (rowO os ss) rfl HRA.out ⟨W.heap.size, 0, none⟩ 1 1 [.int .u8 k, .slice sa sl sc] rfl rfl HNW.out (by intro u hu; simp at hu; rcases hu with rfl | rfl <;> rfl) (by simp only [maxLen]; omega) (by omega) (by simp; omega) ?_; intro v2 W2 hrow2 hg2 hnn; obtain ⟨g2, cp2, rfl⟩ := ownsRow_succ hrow2; have hob2 := (hg2.block (w.heap.size + 1 + 1) (by simp; omega) (fun e => by obtain ⟨_, _, h⟩ := HB2.out _ e.symm; omega)).trans ((Below.heap_alloc W _ (w.heap.size + 1 + 1) hobl).trans hob); have Kv2 := block_cell hob2; have Fv2 := block_frozen hob2)
      have hkeep : ∀ i o, W.heap[i]? = some o → some i ≠ vr.ownBlock → i ≠ w.heap.size + 1 + 1 → (W2.setCell ⟨w.heap.size + 1 + 1, 0, none⟩ (.slice (some ⟨g2, 0, none⟩) (os.length + 1) cp2)).heap[i]? = some o := fun i o hi h1 h2 =>
        heap_set_ne ((hg2.block i (by have := (Array.getElem?_eq_some_iff.1 hi).1; simp; omega) h1).trans ((Below.heap_alloc W _ i (Array.getElem?_eq_some_iff.1 hi).1).trans hi)) h2
      have hsz2 : W.heap.size + 1 ≤ W2.heap.size := by have := hg2.size; simpa using this
      have hown2 : (W2.setCell ⟨w.heap.size + 1 + 1, 0, none⟩ (.slice (some ⟨g2, 0, none⟩) (os.length + 1) cp2)).ownsRow (w.heap.size + 1 + 1 + 1 + 1) 57 2 (.slice (some ⟨g2, 0, none⟩) (os.length + 1) cp2) (os.length + 1) (rowO os ss ++ [.int .u8 k, .slice sa sl sc]) := by
        refine ⟨hrow2.1, hrow2.2.imp id ?_⟩
        rintro ⟨g, cp, cur, e1, e2, e3, r⟩
        exact ⟨g, cp, cur, e1, e2, heap_set_ne e3 (by omega), r⟩
      have hdk : ∀ v zs', Ow (w.heap.size + 1 + 1 + 1 + 1) W v zs' → Ow (w.heap.size + 1 + 1 + 1 + 1) (W2.setCell ⟨w.heap.size + 1 + 1, 0, none⟩ (.slice (some ⟨g2, 0, none⟩) (os.length + 1) cp2)) v zs' := fun v zs' h => by
        rcases h with h | ⟨g, cp, cur, e1, e2, e3, e4, e5, e6, e7⟩
        · exact .inl h
        · refine .inr ⟨g, cp, cur, e1, e2, e3, e4, e5, hkeep g _ e6 (fun e => ?_) (by omega), e7⟩
          obtain ⟨c2, h2, _⟩ := HB2.out g e.symm
          rw [Below.heap_alloc W _ g (Array.getElem?_eq_some_iff.1 e6).1, e6] at h2
          simp at h2
      have hbn : Below w.heap.size W (W2.setCell ⟨w.heap.size + 1 + 1, 0, none⟩ (.slice (some ⟨g2, 0, none⟩) (os.length + 1) cp2)) := ⟨hg2.os, hg2.tape, hg2.output, by simp; omega, fun i hi => by
        cases hh : W.heap[i]? with
        | none => have := Array.getElem?_eq_none_iff.1 hh; omega
        | some o => exact hkeep i o hh (fun e => by obtain ⟨_, _, h⟩ := HB2.out _ e.symm; omega) (by omega)⟩
      refine ⟨⟨by simp; omega, fun i o hi ho hc => hkeep i o ho (fun e => ?_) (by omega)⟩, ⟨hbn, ?_⟩, ⟨⟨os ++ [(k, dt)], (.slice (some ⟨g2, 0, none⟩) (os.length + 1) cp2), by simp [hos], heap_set1 hob2 0 _, ss ++ [.slice sa sl sc], by simp [hsl], ?_, ?_⟩, ?_, ?_⟩, hbW.trans hbn⟩
      · obtain ⟨c2, h2, _⟩ := HB2.out i e.symm
        rw [Below.heap_alloc W _ i (Array.getElem?_eq_some_iff.1 ho).1, ho] at h2
        cases h2
        cases hc
      · cases hh : W.heap[w.heap.size + 1 + 1 + 1]? with
        | none => have := Array.getElem?_eq_none_iff.1 hh; omega
        | some o => exact hkeep _ o hh (fun e => by obtain ⟨_, _, h⟩ := HB2.out _ e.symm; omega) (by omega)
      · rw [List.length_append, List.length_singleton, rowO_snoc os ss hsl]
        exact hown2
      · intro j hj
        simp at hj
        by_cases h : j < os.length
        · rw [List.getElem?_append_left h, List.getElem?_append_left (by omega)]
          exact hdk _ _ (hdat j h)
        · obtain rfl : j = os.length := by omega
          rw [List.getElem?_append_right (Nat.le_refl _), List.getElem?_append_right (by omega), hsl]
          simpa using hdk _ _ hOs
      · exact hkeep _ _ hr0 (fun e => by obtain ⟨_, _, h⟩ := HB2.out _ e.symm; omega) (by omega)
      · exact hkeep _ _ hr1 (fun e => by obtain ⟨_, _, h⟩ := HB2.out _ e.symm; omega) (by omega)
  case done =>
    rintro D xs W hD hS ⟨⟨⟨os, v, h1, h2, h3⟩, h4, h5⟩, hbW⟩ hK
    obtain ⟨av, cv, rfl, _, _⟩ := h3.slice
    have hbsz := hbW.size
    have hopts : opts zs = some os := by
      rcases hS with ⟨os', e1, e2⟩ | ⟨_, l', v', rfl⟩
      · rw [e1]
        congr 1
        rw [h1] at e2
        have := congrArg (List.filterMap id) e2
        simpa [List.filterMap_map] using this.symm
      · have := congrArg List.getLast? h1
        cases hl : os.getLast? <;> simp [hl] at this
    have K2 := block_cell h2
    have K4 := block_cell h4
    have K5 := block_cell h5
    have F4 := block_frozen h4
    have F5 := block_frozen h5
    have HOP := hide hopts
    clear hopts h1 hS
    gi_wp2
    have r4 : ((W.setCell ⟨w.heap.size, 0, none⟩ (.slice av os.length cv)).setCell ⟨w.heap.size + 1, 0, none⟩ (.bool true)).heap[w.heap.size]? = some (.cells #[.slice av os.length cv] 27 (0, 0)) := heap_set_ne (heap_set1 h4 0 _) (by simp)
    have r5 : ((W.setCell ⟨w.heap.size, 0, none⟩ (.slice av os.length cv)).setCell ⟨w.heap.size + 1, 0, none⟩ (.bool true)).heap[w.heap.size + 1]? = some (.cells #[.bool true] 4 (0, 0)) := heap_set1 (heap_set_ne h5 (by simp)) 0 _
    have rD : ((W.setCell ⟨w.heap.size, 0, none⟩ (.slice av os.length cv)).setCell ⟨w.heap.size + 1, 0, none⟩ (.bool true)).heap[D]? = some (.deferred (some [])) := heap_set_ne (heap_set_ne hK (by omega)) (by omega)
    have hE : But (fun b => b = w.heap.size ∨ b = w.heap.size + 1) W ((W.setCell ⟨w.heap.size, 0, none⟩ (.slice av os.length cv)).setCell ⟨w.heap.size + 1, 0, none⟩ (.bool true)) := ((But.refl _ W).setCell (p := ⟨w.heap.size, 0, none⟩) (.inl rfl) _).setCell (p := ⟨w.heap.size + 1, 0, none⟩) (.inr rfl) _
    generalize (W.setCell ⟨w.heap.size, 0, none⟩ (.slice av os.length cv)).setCell ⟨w.heap.size + 1, 0, none⟩ (.bool true) = V at *
    have hbV : Below w.heap.size w V := hbW.trans (hE.below hbW.size (fun k h e => by omega))
    have hOV := h3.but hE (fun b h e => by omega)
    have q4 := (CK.put (o' := .deferred none) rD rfl).2 _ _ r4 rfl
    have q5 := (CK.put (o' := .deferred none) rD rfl).2 _ _ r5 rfl
    have Q4 := block_cell q4
    have Q5 := block_cell q5
    refine ⟨by simp, .inl ⟨_, _, rfl, run_takeDeferred rD, ?_⟩⟩
    exact ⟨.tuple #[.slice av os.length cv, .bool true], by simp [results, Try.results21, go_sem, Q4, Q5], hbV.trans (belowK_b (w := w) (Nat.le_refl _) V D _ _ (by omega) rD rfl rfl), .inr ⟨os, _, HOP.out, rfl, (hOV.ck (CK.put rD rfl)).mono (by omega)⟩⟩
  case stop =>
    rintro D pre W hD hSp ⟨⟨hl, h4, h5⟩, hbW⟩ hK
    have hno := hSp hl
    have q4 := (CK.put (o' := .deferred none) hK rfl).2 _ _ h4 rfl
    have q5 := (CK.put (o' := .deferred none) hK rfl).2 _ _ h5 rfl
    have Q4 := block_cell q4
    have Q5 := block_cell q5
    gi_wp2
    refine ⟨by simp, .inl ⟨_, _, rfl, run_takeDeferred hK, ?_⟩⟩
    exact ⟨.tuple #[.slice none 0 0, .bool false], by simp [results, Try.results21, go_sem, Q4, Q5], hbW.trans (belowK_b (w := w) (Nat.le_refl _) W D _ _ (by omega) hK rfl rfl), .inl ⟨hno, rfl⟩⟩
end Go.Proofs.Ytclkfmdlgffbeaa
