/- Package seqadj: across, Map, Unmap. -/
import Derived.Test.YtaaanmjmgnpcgaaGB
namespace Go.Proofs.Ytaaanmjmgnpcgaa
open Go.RowKit Go.Shelf
set_option maxRecDepth 100000
attribute [local go_sem] Oper.semAt_some
set_option linter.unusedVariables false
set_option linter.unusedSimpArgs false

theorem fromLast_gen (n : Nat) (hn : 1 ≤ n) (B base b : Nat) (v : Value) (ls : List Pa) (w0 w : World) (hT : SL 57 base w0 b v ls) (hlen : ls.length ≤ 1000) (hw : Later w0 w) (n₀ : Nat) (hn0 : w0.heap.size ≤ n₀) (hnw : n₀ ≤ w.heap.size) (hBl : B < n₀) (hB : w.cell? ⟨B, 0, none⟩ = some (.pointer (some ⟨b, 0, none⟩))) :
    GenX Fence.wide n Try.prog 44 #[.pointer (some ⟨B, 0, none⟩)] encP (Below n₀) (XP ls.reverse) (fun xs => xs = ls.reverse) (fun pre => ∃ rest, pre ++ rest = ls.reverse) w := fun l J Jx W hW hJ hY h0 => by
  have hwW : Later w0 W := hw.trans hW
  have hBW := (hW.cell (p := ⟨B, 0, none⟩) (show B < w.heap.size by omega)).trans hB
  have hb := hT.blt
  exact fromLast1_in n hn l B b n₀ v ls J Jx hlen hY W hBW hBl (by omega) ((block_cell (hT.later hwW).2.1 0).trans rfl) (((ownP_rd hT.2.2).below hwW).mono hn0) h0

def CT (A B : World) : Prop := A.heap.size ≤ B.heap.size ∧ ∀ (k : Nat) (o : Obj), A.heap[k]? = some o → o.isCells = true → B.heap[k]? = some o
theorem CT.of {A B : World} (h : Later A B) : CT A B := ⟨h.size, fun k o ho _ => later_keep h ho⟩
theorem CT.row {A B : World} {row : Option Nat} (hg : A.grownBy B row) (hr : ∀ r, row = some r → ∃ o : Obj, A.heap[r]? = some o ∧ o.isCells = false) : CT A B :=
  ⟨hg.size, fun k o ho hc => (hg.block k (Array.getElem?_eq_some_iff.1 ho).1 (fun e => by obtain ⟨o', h1, h2⟩ := hr k e.symm; rw [ho] at h1; cases h1; rw [hc] at h2; cases h2)).trans ho⟩
theorem CT.put {A : World} {l : Nat} {o o' : Obj} (h : A.heap[l]? = some o) (hc : o.isCells = false) : CT A (A.putObj l o') :=
  CT.row (grownBy_putObj' A l o') (fun r e => by cases e; exact ⟨o, h, hc⟩)

/-- Where a number goes, by parts of which the last one comes first. -/
def acr (fs fe ts te : Pa → Int) (n : Int) : List Pa → Int
  | [] => n
  | p :: l => if bhd (fs p) n then acr fs fe ts te n l else if bhd (fe p) n then ts p else (n + (te p - fe p)) % 4294967296
theorem acr_end {fs fe ts te : Pa → Int} {n : Int} : ∀ (l : List Pa), (∀ p ∈ l, bhd (fs p) n = true) → acr fs fe ts te n l = n
  | [], _ => rfl
  | p :: l, h => by unfold acr; rw [if_pos (h p (by simp))]; exact acr_end l (fun q hq => h q (by simp [hq]))
theorem acr_at {fs fe ts te : Pa → Int} {n : Int} (x : Pa) (rest : List Pa) (hx : bhd (fs x) n = false) : ∀ (pre : List Pa), (∀ p ∈ pre, bhd (fs p) n = true) → acr fs fe ts te n (pre ++ [x] ++ rest) = if bhd (fe x) n then ts x else (n + (te x - fe x)) % 4294967296
  | [], _ => by show acr fs fe ts te n (x :: rest) = _; unfold acr; rw [hx]; simp
  | p :: pre, h => by
    show acr fs fe ts te n (p :: (pre ++ [x] ++ rest)) = _
    unfold acr
    rw [if_pos (h p (by simp))]
    exact acr_at x rest hx pre (fun q hq => h q (by simp [hq]))

/-- What across keeps while it looks. -/
def AI (rb : Nat) (n : Int) (cv : Value) (fs : Pa → Int) (pre : List Pa) (W : World) : Prop :=
  (W.heap[rb]? = some (.cells #[.int .u32 n] 23 (0, 0)) ∧ W.heap[rb + 1]? = some (.cells #[cv] 67 (0, 0)) ∧ W.heap[rb + 1 + 1]? = some (.cells #[.int .u32 n] 23 (0, 0))) ∧ ∀ p ∈ pre, bhd (fs p) n = true
theorem AI.ct {rb : Nat} {n : Int} {cv : Value} {fs : Pa → Int} {pre : List Pa} {A B : World} (h : AI rb n cv fs pre A) (c : CT A B) : AI rb n cv fs pre B := ⟨⟨c.2 _ _ h.1.1 rfl, c.2 _ _ h.1.2.1 rfl, c.2 _ _ h.1.2.2 rfl⟩, h.2⟩
/-- How it leaves when it has found. -/
def AX (rb : Nat) (n : Int) (fs fe ts te : Pa → Int) (pre : List Pa) (W : World) : Prop :=
  ∃ pre0 x, pre = pre0 ++ [x] ∧ bhd (fs x) n = false ∧ (∀ p ∈ pre0, bhd (fs p) n = true) ∧ W.heap[rb + 1 + 1]? = some (.cells #[.int .u32 (if bhd (fe x) n then ts x else (n + (te x - fe x)) % 4294967296)] 23 (0, 0))
theorem AX.ct {rb : Nat} {n : Int} {fs fe ts te : Pa → Int} {pre : List Pa} {A B : World} (h : AX rb n fs fe ts te pre A) (c : CT A B) : AX rb n fs fe ts te pre B := by
  obtain ⟨pre0, x, h1, h2, h3, h4⟩ := h
  exact ⟨pre0, x, h1, h2, h3, c.2 _ _ h4 rfl⟩

set_option maxRecDepth 100000 in
set_option maxHeartbeats 8000000 in
theorem across_any (base b cf : Nat) (v : Value) (ls : List Pa) (fs fe ts te : Pa → Int) (n : Int) (hn : 0 ≤ n ∧ n ≤ 4294967295) (w : World) (hT : SL 57 base w b v ls) (hlen : ls.length ≤ 1000)
    (eg : ∀ args w, (callFunc cf args).run Try.prog w = .ok (.enter cf args) w)
    (hcl : ∀ p W, Calls Try.prog cf #[.agg (pac p).toArray] W fun e W' => e = .returned (.tuple #[.agg #[.int .u32 (fs p), .int .u32 (fe p)], .agg #[.int .u32 (ts p), .int .u32 (te p)]]) ∧ Later W W') :
    Calls Try.prog 35 #[.pointer (some ⟨b, 0, none⟩), .int .u32 n, .func (.func cf) #[] #[]] w fun e w' => e = .returned (.int .u32 (acr fs fe ts te n ls.reverse)) ∧ Later w w' := by
  refine (callsIn_wide (n := 5)).1 ?_
  refine callsIn_of_wp_marks Try.func35 rfl trivial ?_ rfl
  simp only [Try.ntmps35, List.size_toArray, List.length_cons, List.length_nil, Nat.reduceAdd, Nat.reduceSub, Array.replicate_succ, Array.replicate_zero, List.push_toArray, List.append_toArray, List.nil_append, List.cons_append]
  gi_wp2
  refine wpIn_wide.2 (wp_scope_straight ((wpIn_wide (n := 5)).1 ?_))
  gi_wp2
  obtain ⟨lb3, c0, c1, c2⟩ := alloc3 w (.cells #[.int .u32 n] 23) (.cells #[.func (.func cf) #[] #[]] 67) (.cells #[.int .u32 n] 23)
  have hs3 : (((w.alloc (.cells #[.int .u32 n] 23)).alloc (.cells #[.func (.func cf) #[] #[]] 67)).alloc (.cells #[.int .u32 n] 23)).heap.size = w.heap.size + 1 + 1 + 1 := by simp
  generalize ((w.alloc _).alloc _).alloc _ = w3 at *
  have la : Later w3 (w3.alloc (.cells #[.pointer (some ⟨b, 0, none⟩)] 27)) := (Below.refl _ _).alloc (Nat.le_refl _) _
  have c3 := heap_alloc_new w3 (.cells #[.pointer (some ⟨b, 0, none⟩)] 27)
  have hs4 : (w3.alloc (.cells #[.pointer (some ⟨b, 0, none⟩)] 27)).heap.size = w3.heap.size + 1 := by simp
  refine wpIn_label ?_
  have HCL := hide hcl
  have HEG := hide eg
  clear hcl eg
  gi_wp2_with (refine ⟨trivial, ?_⟩; gi_at_call 42; refine (fromLast_in _ _ _).mono ?_; rintro e w' ⟨rfl, rfl⟩)
  generalize w3.alloc _ = w4 at *
  rw [hs3] at c3 hs4
  have hb4 : Later w w4 := lb3.trans la
  have d0 := later_keep la c0
  have d1 := later_keep la c1
  have d2 := later_keep la c2
  refine wpIn_rangeZ 0 (w := w4) rfl (by omega) (gf := 44) (lb := #[.pointer (some ⟨w.heap.size + 1 + 1 + 1, 0, none⟩)]) rfl trivial (enters_of Try.func44 (by kernel_rfl) rfl)
    (fromLast_gen 4 (by omega) (w.heap.size + 1 + 1 + 1) base b v ls w w4 hT hlen hb4 w4.heap.size (by omega) (Nat.le_refl _) (by omega) ((block_cell c3 0).trans rfl))
    (fun h k => h.trans k) (fun W l o o' hl ho hc hw => belowK_b (w := w4) (Nat.le_refl _) W l o o' hl ho hc hw) (fun hA hL => hL.mono hA) (fun _ _ _ _ h _ => h) (fun _ _ _ _ _ _ _ _ _ h => h) (fun _ => rfl)
    (fun pre W => AI w.heap.size n (.func (.func cf) #[] #[]) fs pre W ∧ Below w.heap.size w W) (fun pre W => AX w.heap.size n fs fe ts te pre W ∧ Below w.heap.size w W)
    (OwnFrom.and (fun s A B row hs hg hr => hs.ct (CT.row hg (fun r e => (hr r e).2))) (ownFrom_below (Nat.le_refl _) (by omega)))
    (fun s A B h l => ⟨h.1.ct (CT.of l), h.2.trans (l.mono h.2.size)⟩)
    (OwnFrom.and (fun s A B row hs hg hr => hs.ct (CT.row hg (fun r e => (hr r e).2))) (ownFrom_below (Nat.le_refl _) (by omega)))
    ⟨⟨⟨d0, d1, d2⟩, fun x hx => by cases hx⟩, hb4⟩
    (fun x a' W => ∃ bx : Nat, w.heap.size + 1 + 1 + 1 + 1 ≤ bx ∧ W.heap[bx]? = some (.cells #[.int .u32 x.ws, .int .u32 x.we, .int .u32 x.is, .int .u32 x.ie, .slice x.ta x.tn x.tc] 65 (0, 0)) ∧ a' = { tmps := #[.pointer (some ⟨b, 0, none⟩), .int .u32 n, .func (.func cf) #[] #[], undef, .pointer (some ⟨w.heap.size, 0, none⟩), .pointer (some ⟨w.heap.size + 1, 0, none⟩), .int .u32 0, .pointer (some ⟨w.heap.size + 1 + 1, 0, none⟩), .pointer (some ⟨bx, 0, none⟩), undef, undef, .pointer (some ⟨b, 0, none⟩), .bool false, .int .u32 n, .pointer (some ⟨b, 0, none⟩), .func (.func 44) #[] #[.pointer (some ⟨w.heap.size + 1 + 1 + 1, 0, none⟩)], .agg #[.int .u32 x.ws, .int .u32 x.we, .int .u32 x.is, .int .u32 x.ie, .slice x.ta x.tn x.tc], undef, undef, undef, undef, undef, undef, undef, undef, undef, undef, undef, undef, undef, undef, undef, undef, undef, undef, undef, undef, undef, undef, undef, undef, undef, undef], defers := [] })
    (fun x a' W l o o' hl ho hc h => by obtain ⟨bx, h1, h2, h3⟩ := h; exact ⟨bx, h1, (CT.put ho hc).2 _ _ h2 rfl, h3⟩) ?assign ?body ?done ?stop
  case assign =>
    rintro l pre x W K hsz _ hX hK
    dsimp only [encP, pac]
    gi_wp2
    refine hK _ _ ?_ ⟨W.heap.size, by omega, heap_alloc_new _ _, rfl⟩
    exact (Below.refl _ W).alloc (Nat.le_refl _) _
  case body =>
    rintro l pre x a' W ⟨⟨⟨h0, h1, h2⟩, hno⟩, hbW⟩ hX ⟨bx, hbx, hbo, rfl⟩
    have hc := (callsIn_wide (n := 2)).2 (HCL.out x W)
    have HC := hide (hc.inRound l)
    clear hc
    have Kb := block_cell hbo
    have K0 := block_cell h0
    have K1 := block_cell h1
    gi_wp2
    refine ⟨trivial, ?_⟩
    rw [HEG.out]
    simp only [Oper.uponIn]
    clear Kb K0 K1
    refine ⟨fun _ => by omega, HC.out.mono ?_⟩
    rintro e W1 ⟨rfl, l1⟩
    have hbW1 := hbW.trans (l1.mono hbW.size)
    have g0 := later_keep l1 h0
    have g1 := later_keep l1 h1
    have g2 := later_keep l1 h2
    have HBH := hide (fun W a => ((callsIn_wide (n := 2)).2 (behind_any a n W)).inRound l)
    have lq : Later W1 ((W1.alloc (.cells #[.int .u32 (fs x), .int .u32 (fe x)] 62)).alloc (.cells #[.int .u32 (ts x), .int .u32 (te x)] 62)) := ((Below.refl _ _).alloc (Nat.le_refl _) _).alloc (by simp) _
    have q0 : ((W1.alloc (.cells #[.int .u32 (fs x), .int .u32 (fe x)] 62)).alloc (.cells #[.int .u32 (ts x), .int .u32 (te x)] 62)).heap[W1.heap.size]? = some (.cells #[.int .u32 (fs x), .int .u32 (fe x)] 62) := (Below.heap_alloc _ _ _ (by simp)).trans (heap_alloc_new W1 _)
    have q1 : ((W1.alloc (.cells #[.int .u32 (fs x), .int .u32 (fe x)] 62)).alloc (.cells #[.int .u32 (ts x), .int .u32 (te x)] 62)).heap[W1.heap.size + 1]? = some (.cells #[.int .u32 (ts x), .int .u32 (te x)] 62) := by
      have := heap_alloc_new (W1.alloc (.cells #[.int .u32 (fs x), .int .u32 (fe x)] 62)) (.cells #[.int .u32 (ts x), .int .u32 (te x)] 62)
      rwa [World.size_alloc] at this
    have r0 := later_keep lq g0
    have r1 := later_keep lq g1
    have r2 := later_keep lq g2
    have k0 := block_cell q0
    have k1 := block_cell q1
    have k2 := block_cell r0
    have k3 := block_cell r2
    have f3 := block_frozen r2
    have L2 : Later W _ := l1.trans lq
    have hsz4 : w.heap.size + 1 + 1 < w4.heap.size := by omega
    have HLS := hide (show w.heap.size + 1 + 1 < W1.heap.size from (Array.getElem?_eq_some_iff.1 g2).1)
    gi_wp2
    generalize (W1.alloc _).alloc _ = W2 at *
    refine ⟨trivial, (HBH.out W2 (fs x)).mono ?_⟩
    rintro e W3 ⟨rfl, rfl⟩
    have hbW2 : Below w.heap.size w W3 := hbW1.trans (lq.mono hbW1.size)
    have hk2 : KeepsFrom w4.heap.size W W3 := ⟨L2.size, fun i o hi ho hc => later_keep L2 ho⟩
    have fin : ∀ (z : Value), KeepsFrom w4.heap.size W (W3.setCell ⟨w.heap.size + 1 + 1, 0, none⟩ z) ∧ (W3.setCell ⟨w.heap.size + 1 + 1, 0, none⟩ z).heap[w.heap.size + 1 + 1]? = some (.cells #[z] 23 (0, 0)) ∧ Below w.heap.size w (W3.setCell ⟨w.heap.size + 1 + 1, 0, none⟩ z) := fun z => by
      have hbz : But (fun g => g = w.heap.size + 1 + 1) W3 (W3.setCell ⟨w.heap.size + 1 + 1, 0, none⟩ z) := (But.refl (fun g => g = w.heap.size + 1 + 1) _).setCell (p := ⟨w.heap.size + 1 + 1, 0, none⟩) rfl _
      refine ⟨⟨Nat.le_trans L2.size hbz.size, fun i o hi ho hc => ?_⟩, by simpa using heap_set1 r2 0 z, hbW2.trans (hbz.below hbW2.size (fun k hk e => by omega))⟩
      have h5 := later_keep L2 ho
      exact (hbz.block i (Array.getElem?_eq_some_iff.1 h5).1 (by omega)).trans h5
    have FIN := hide fin
    clear fin
    cases hq : bhd (fs x) n with
    | true =>
      have HQ := hide hq
      clear hq
      gi_wp2
      exact ⟨hk2, L2.mono (by have := (Array.getElem?_eq_some_iff.1 hbo).1; omega), ⟨⟨r0, r1, r2⟩, fun y hy => (List.mem_append.1 hy).elim (hno y) (fun h => by rw [show y = x from by simpa using h]; exact HQ.out)⟩, hbW2⟩
    | false =>
      have HQ := hide hq
      clear hq
      gi_wp2
      refine ⟨trivial, (HBH.out W3 (fe x)).mono ?_⟩
      rintro e W4 ⟨rfl, rfl⟩
      cases hq2 : bhd (fe x) n with
      | true =>
        have HQ2 := hide hq2
        clear hq2
        gi_wp2
        exact ⟨rfl, (FIN.out _).1, ⟨pre, x, rfl, HQ.out, hno, by rw [HQ2.out]; exact (FIN.out _).2.1⟩, (FIN.out _).2.2⟩
      | false =>
        have HQ2 := hide hq2
        clear hq2
        gi_wp2
        refine ⟨rfl, (FIN.out _).1, ⟨pre, x, rfl, HQ.out, hno, ?_⟩, (FIN.out _).2.2⟩
        rw [HQ2.out]
        refine (FIN.out _).2.1.trans ?_
        first | (simp; done) | (simp; omega)
  case done =>
    rintro D xs W hD rfl ⟨⟨⟨h0, h1, h2⟩, hno⟩, hbW⟩ hK
    have K2 := block_cell h2
    have hres := acr_end (fs := fs) (fe := fe) (ts := ts) (te := te) ls.reverse hno
    have HRES := hide hres
    clear hres
    gi_wp2
    refine ⟨by simp, .inl ⟨_, _, rfl, run_takeDeferred hK, ?_⟩⟩
    exact ⟨.int .u32 n, by simp [results, Try.results35, go_sem], by rw [HRES.out], hbW.trans (belowK_b (w := w) (Nat.le_refl _) W D _ _ (by omega) hK rfl rfl)⟩
  case stop =>
    rintro D pre W hD ⟨rest, hrest⟩ ⟨⟨pre0, x, rfl, hpx, hp0, h2⟩, hbW⟩ hK
    have hres := acr_at (fe := fe) (ts := ts) (te := te) x rest hpx pre0 hp0
    rw [hrest] at hres
    rw [← hres] at h2
    clear hres
    generalize hz : acr fs fe ts te n ls.reverse = z at *
    have HZ := hide hz
    clear hz
    have K2 := block_cell h2
    gi_wp2
    refine ⟨by simp, .inl ⟨_, _, rfl, run_takeDeferred hK, ?_⟩⟩
    exact ⟨.int .u32 z, by simp [results, Try.results35, go_sem], by rw [HZ.out], hbW.trans (belowK_b (w := w) (Nat.le_refl _) W D _ _ (by omega) hK rfl rfl)⟩
end Go.Proofs.Ytaaanmjmgnpcgaa
