/- Package seqadj: parts from the last one; where a number goes. -/
import Derived.Test.YtaaanmjmgnpcgaaGA
import Derived.Test.YtaaanmjmgnpcgaaRz
import Derived.Test.YtaaanmjmgnpcgaaW1
import Derived.Deep.DeepCutAuto
import Derived.Deep.CutBlock
import Derived.Scope
import Derived.WalkMore
namespace Go.Proofs.Ytaaanmjmgnpcgaa
open Go.RowKit Go.Shelf
set_option maxRecDepth 100000
attribute [local go_sem] Oper.semAt_some
set_option linter.unusedVariables false
set_option linter.unusedSimpArgs false

theorem alloc3 (w : World) (A B C : Obj) : Later w (((w.alloc A).alloc B).alloc C) ∧ (((w.alloc A).alloc B).alloc C).heap[w.heap.size]? = some A ∧ (((w.alloc A).alloc B).alloc C).heap[w.heap.size + 1]? = some B ∧ (((w.alloc A).alloc B).alloc C).heap[w.heap.size + 1 + 1]? = some C := by
  have h1 : Later w ((w.alloc A).alloc B) := ((Below.refl _ _).alloc (Nat.le_refl _) _).alloc (by simp) _
  have h2 : ((w.alloc A).alloc B).heap[w.heap.size]? = some A := (Below.heap_alloc _ _ _ (by simp)).trans (heap_alloc_new w _)
  have h3 : ((w.alloc A).alloc B).heap[w.heap.size + 1]? = some B := by
    have := heap_alloc_new (w.alloc A) B
    rwa [World.size_alloc] at this
  refine ⟨h1.trans ((Below.refl _ _).alloc (Nat.le_refl _) _), (Below.heap_alloc _ _ _ (by simp <;> omega)).trans h2, (Below.heap_alloc _ _ _ (by simp)).trans h3, ?_⟩
  have := heap_alloc_new ((w.alloc A).alloc B) C
  simpa only [World.size_alloc] using this

def bhd (a b : Int) : Bool := decide (0 < ahd a b)
theorem behind_any (a b : Int) (w : World) : Calls Try.prog 43 #[.int .u32 a, .int .u32 b] w fun e w' => e = .returned (.bool (bhd a b)) ∧ w' = w := by
  have HA := hide (ahead_any a b w)
  unfold bhd
  generalize ahd a b = d at *
  go_enter Try.func43, Try.ntmps43
  go_wp2_with fail
  refine HA.out.mono ?_
  rintro e w1 ⟨rfl, rfl⟩
  go_wp2_with fail
  go_ret
  exact ⟨rfl, rfl⟩

set_option maxHeartbeats 4000000 in
theorem map1_any (p : Pa) (w : World) : Calls Try.prog 37 #[.agg (pac p).toArray] w fun e w' => e = .returned (.tuple #[.agg #[.int .u32 p.ws, .int .u32 p.we], .agg #[.int .u32 p.is, .int .u32 p.ie]]) ∧ Later w w' := by
  obtain ⟨lb0, c0, c1, c2⟩ := alloc3 w (.cells #[.int .u32 p.ws, .int .u32 p.we, .int .u32 p.is, .int .u32 p.ie, .slice p.ta p.tn p.tc] 65) (.cells #[.int .u32 0, .int .u32 0] 62) (.cells #[.int .u32 0, .int .u32 0] 62)
  unfold pac
  go_enter Try.func37, Try.ntmps37
  go_upto_region 1 with fail
  generalize ((w.alloc _).alloc _).alloc _ = w0 at *
  refine anyT_begin (R := But (fun g => g = w.heap.size + 1 ∨ g = w.heap.size + 1 + 1)) 6 rfl (by kernel_rfl) ?_
  have ld : Later w0 w0.drew := Later.drew w0
  have L0 := lb0.trans ld
  have d0 := later_keep ld c0
  have d1 := later_keep ld c1
  have d2 := later_keep ld c2
  generalize w0.drew = Wd at *
  have ha : ∀ v1, But (fun g => g = w.heap.size + 1 ∨ g = w.heap.size + 1 + 1) Wd v1 → ∀ j, v1.cell? ⟨w.heap.size, j, none⟩ = #[.int .u32 p.ws, .int .u32 p.we, .int .u32 p.is, .int .u32 p.ie, .slice p.ta p.tn p.tc][j]? := fun v1 hv => block_cell ((hv.block w.heap.size (Array.getElem?_eq_some_iff.1 d0).1 (by omega)).trans d0)
  refine anyT_val (But.pre _) 0 rfl (by kernel_rfl) (by kernel_rfl) (by kernel_rfl) (fun _ _ _ _ h => h) rfl ?_; apply Exists.intro; refine ⟨fun v1 hv1 => ?_, ?_⟩; (· (go_simp; rfl)); simp only [Act.put, List.setIfInBounds_toArray, List.set_cons_zero, List.set_cons_succ]
  refine anyT_val (But.pre _) 1 rfl (by kernel_rfl) (by kernel_rfl) (by kernel_rfl) (fun _ _ _ _ h => h) rfl ?_; apply Exists.intro; refine ⟨fun v1 hv1 => ?_, ?_⟩; (· (go_simp; rfl)); simp only [Act.put, List.setIfInBounds_toArray, List.set_cons_zero, List.set_cons_succ]
  refine anyT_val (But.pre _) 2 rfl (by kernel_rfl) (by kernel_rfl) (by kernel_rfl) (fun _ _ _ _ h => h) rfl ?_; apply Exists.intro; refine ⟨fun v1 hv1 => ?_, ?_⟩; (· (go_simp; rfl)); simp only [Act.put, List.setIfInBounds_toArray, List.set_cons_zero, List.set_cons_succ]
  refine anyT_val (But.pre _) 3 rfl (by kernel_rfl) (by kernel_rfl) (by kernel_rfl) (fun _ _ _ _ h => h) rfl ?_; apply Exists.intro; refine ⟨fun v1 hv1 => ?_, ?_⟩; (· (go_simp; rfl)); simp only [Act.put, List.setIfInBounds_toArray, List.set_cons_zero, List.set_cons_succ]
  clear ha
  refine anyT_one 4 rfl (by kernel_rfl) rfl ?_
  have k1 := block_cell d1
  have f1 := block_frozen d1
  unfold Oper.wp
  go_simp
  have hb1 : But (fun g => g = w.heap.size + 1) Wd (putRow Wd (w.heap.size + 1) 0 [.int .u32 p.ws, .int .u32 p.we]) := putRow_rb (rb := w.heap.size + 1) _ Wd
  have e1 := putRow_all [.int .u32 p.ws, .int .u32 p.we] d1 rfl
  change But _ _ (putRow Wd (w.heap.size + 1) 0 [.int .u32 p.ws, .int .u32 p.we]) ∧ _
  refine ⟨⟨hb1.os, hb1.tape, hb1.output, hb1.size, fun k hk he => hb1.block k hk (fun e => he (.inl e))⟩, ?_⟩
  have e2 := (hb1.block (w.heap.size + 1 + 1) (Array.getElem?_eq_some_iff.1 d2).1 (by omega)).trans d2
  change wpAnyT _ _ _ _ _ _ _ _ (putRow Wd (w.heap.size + 1) 0 [.int .u32 p.ws, .int .u32 p.we])
  generalize putRow Wd (w.heap.size + 1) 0 [.int .u32 p.ws, .int .u32 p.we] = W1 at *
  refine anyT_one 5 rfl (by kernel_rfl) rfl ?_
  clear k1 f1
  have k2 := block_cell e2
  have f2 := block_frozen e2
  unfold Oper.wp
  go_simp
  have hb2 : But (fun g => g = w.heap.size + 1 + 1) W1 (putRow W1 (w.heap.size + 1 + 1) 0 [.int .u32 p.is, .int .u32 p.ie]) := putRow_rb (rb := w.heap.size + 1 + 1) _ W1
  have g2 := putRow_all [.int .u32 p.is, .int .u32 p.ie] e2 rfl
  change But _ _ (putRow W1 (w.heap.size + 1 + 1) 0 [.int .u32 p.is, .int .u32 p.ie]) ∧ _
  refine ⟨⟨hb2.os, hb2.tape, hb2.output, hb2.size, fun k hk he => hb2.block k hk (fun e => he (.inr e))⟩, ?_⟩
  have g1 := (hb2.block (w.heap.size + 1) (Array.getElem?_eq_some_iff.1 e1).1 (by omega)).trans e1
  change wpAnyT _ _ _ _ _ _ _ _ (putRow W1 (w.heap.size + 1 + 1) 0 [.int .u32 p.is, .int .u32 p.ie])
  have hsz := L0.size
  have hs1 := hb1.size
  have LL : Below w.heap.size w (putRow W1 (w.heap.size + 1 + 1) 0 [.int .u32 p.is, .int .u32 p.ie]) := Below.trans L0 ((hb1.below hsz (fun k hk e => by omega)).trans (hb2.below (by omega) (fun k hk e => by omega)))
  generalize putRow W1 (w.heap.size + 1 + 1) 0 [.int .u32 p.is, .int .u32 p.ie] = W2 at *
  refine anyT_done (by kernel_rfl) ?_
  clear k2 f2
  have j1 := block_cell g1
  have j2 := block_cell g2
  go_wp2_with fail
  refine bodyPost_ret (v := .tuple #[.agg #[.int .u32 p.ws, .int .u32 p.we], .agg #[.int .u32 p.is, .int .u32 p.ie]]) (by simp [results, Try.results37, go_sem, j1, j2]) rfl ⟨rfl, LL⟩

set_option maxHeartbeats 4000000 in
theorem unmap1_any (p : Pa) (w : World) : Calls Try.prog 36 #[.agg (pac p).toArray] w fun e w' => e = .returned (.tuple #[.agg #[.int .u32 p.is, .int .u32 p.ie], .agg #[.int .u32 p.ws, .int .u32 p.we]]) ∧ Later w w' := by
  obtain ⟨lb0, c0, c1, c2⟩ := alloc3 w (.cells #[.int .u32 p.ws, .int .u32 p.we, .int .u32 p.is, .int .u32 p.ie, .slice p.ta p.tn p.tc] 65) (.cells #[.int .u32 0, .int .u32 0] 62) (.cells #[.int .u32 0, .int .u32 0] 62)
  unfold pac
  go_enter Try.func36, Try.ntmps36
  go_upto_region 1 with fail
  generalize ((w.alloc _).alloc _).alloc _ = w0 at *
  refine anyT_begin (R := But (fun g => g = w.heap.size + 1 ∨ g = w.heap.size + 1 + 1)) 6 rfl (by kernel_rfl) ?_
  have ld : Later w0 w0.drew := Later.drew w0
  have L0 := lb0.trans ld
  have d0 := later_keep ld c0
  have d1 := later_keep ld c1
  have d2 := later_keep ld c2
  generalize w0.drew = Wd at *
  have ha : ∀ v1, But (fun g => g = w.heap.size + 1 ∨ g = w.heap.size + 1 + 1) Wd v1 → ∀ j, v1.cell? ⟨w.heap.size, j, none⟩ = #[.int .u32 p.ws, .int .u32 p.we, .int .u32 p.is, .int .u32 p.ie, .slice p.ta p.tn p.tc][j]? := fun v1 hv => block_cell ((hv.block w.heap.size (Array.getElem?_eq_some_iff.1 d0).1 (by omega)).trans d0)
  refine anyT_val (But.pre _) 0 rfl (by kernel_rfl) (by kernel_rfl) (by kernel_rfl) (fun _ _ _ _ h => h) rfl ?_; apply Exists.intro; refine ⟨fun v1 hv1 => ?_, ?_⟩; (· (go_simp; rfl)); simp only [Act.put, List.setIfInBounds_toArray, List.set_cons_zero, List.set_cons_succ]
  refine anyT_val (But.pre _) 1 rfl (by kernel_rfl) (by kernel_rfl) (by kernel_rfl) (fun _ _ _ _ h => h) rfl ?_; apply Exists.intro; refine ⟨fun v1 hv1 => ?_, ?_⟩; (· (go_simp; rfl)); simp only [Act.put, List.setIfInBounds_toArray, List.set_cons_zero, List.set_cons_succ]
  refine anyT_val (But.pre _) 2 rfl (by kernel_rfl) (by kernel_rfl) (by kernel_rfl) (fun _ _ _ _ h => h) rfl ?_; apply Exists.intro; refine ⟨fun v1 hv1 => ?_, ?_⟩; (· (go_simp; rfl)); simp only [Act.put, List.setIfInBounds_toArray, List.set_cons_zero, List.set_cons_succ]
  refine anyT_val (But.pre _) 3 rfl (by kernel_rfl) (by kernel_rfl) (by kernel_rfl) (fun _ _ _ _ h => h) rfl ?_; apply Exists.intro; refine ⟨fun v1 hv1 => ?_, ?_⟩; (· (go_simp; rfl)); simp only [Act.put, List.setIfInBounds_toArray, List.set_cons_zero, List.set_cons_succ]
  clear ha
  refine anyT_one 4 rfl (by kernel_rfl) rfl ?_
  have k1 := block_cell d1
  have f1 := block_frozen d1
  unfold Oper.wp
  go_simp
  have hb1 : But (fun g => g = w.heap.size + 1) Wd (putRow Wd (w.heap.size + 1) 0 [.int .u32 p.is, .int .u32 p.ie]) := putRow_rb (rb := w.heap.size + 1) _ Wd
  have e1 := putRow_all [.int .u32 p.is, .int .u32 p.ie] d1 rfl
  change But _ _ (putRow Wd (w.heap.size + 1) 0 [.int .u32 p.is, .int .u32 p.ie]) ∧ _
  refine ⟨⟨hb1.os, hb1.tape, hb1.output, hb1.size, fun k hk he => hb1.block k hk (fun e => he (.inl e))⟩, ?_⟩
  have e2 := (hb1.block (w.heap.size + 1 + 1) (Array.getElem?_eq_some_iff.1 d2).1 (by omega)).trans d2
  change wpAnyT _ _ _ _ _ _ _ _ (putRow Wd (w.heap.size + 1) 0 [.int .u32 p.is, .int .u32 p.ie])
  generalize putRow Wd (w.heap.size + 1) 0 [.int .u32 p.is, .int .u32 p.ie] = W1 at *
  refine anyT_one 5 rfl (by kernel_rfl) rfl ?_
  clear k1 f1
  have k2 := block_cell e2
  have f2 := block_frozen e2
  unfold Oper.wp
  go_simp
  have hb2 : But (fun g => g = w.heap.size + 1 + 1) W1 (putRow W1 (w.heap.size + 1 + 1) 0 [.int .u32 p.ws, .int .u32 p.we]) := putRow_rb (rb := w.heap.size + 1 + 1) _ W1
  have g2 := putRow_all [.int .u32 p.ws, .int .u32 p.we] e2 rfl
  change But _ _ (putRow W1 (w.heap.size + 1 + 1) 0 [.int .u32 p.ws, .int .u32 p.we]) ∧ _
  refine ⟨⟨hb2.os, hb2.tape, hb2.output, hb2.size, fun k hk he => hb2.block k hk (fun e => he (.inr e))⟩, ?_⟩
  have g1 := (hb2.block (w.heap.size + 1) (Array.getElem?_eq_some_iff.1 e1).1 (by omega)).trans e1
  change wpAnyT _ _ _ _ _ _ _ _ (putRow W1 (w.heap.size + 1 + 1) 0 [.int .u32 p.ws, .int .u32 p.we])
  have hsz := L0.size
  have hs1 := hb1.size
  have LL : Below w.heap.size w (putRow W1 (w.heap.size + 1 + 1) 0 [.int .u32 p.ws, .int .u32 p.we]) := Below.trans L0 ((hb1.below hsz (fun k hk e => by omega)).trans (hb2.below (by omega) (fun k hk e => by omega)))
  generalize putRow W1 (w.heap.size + 1 + 1) 0 [.int .u32 p.ws, .int .u32 p.we] = W2 at *
  refine anyT_done (by kernel_rfl) ?_
  clear k2 f2
  have j1 := block_cell g1
  have j2 := block_cell g2
  go_wp2_with fail
  refine bodyPost_ret (v := .tuple #[.agg #[.int .u32 p.is, .int .u32 p.ie], .agg #[.int .u32 p.ws, .int .u32 p.we]]) (by simp [results, Try.results36, go_sem, j1, j2]) rfl ⟨rfl, LL⟩

theorem fromLast_in (n : Nat) (p : Option Addr) (w : World) :
    CallsIn Fence.wide n Try.prog 42 #[.pointer p] w fun e w' => e = .returned (.func (.func 44) #[] #[.pointer (some ⟨w.heap.size, 0, none⟩)]) ∧ w' = w.alloc (.cells #[.pointer p] 27) := by
  refine callsIn_of_wp Try.func42 rfl trivial ?_ rfl
  simp only [Try.ntmps42, List.size_toArray, List.length_cons, List.length_nil, Nat.reduceAdd, Nat.reduceSub, Array.replicate_succ, Array.replicate_zero, List.push_toArray, List.append_toArray, List.nil_append, List.cons_append]
  gi_wp2
  go_ret
  exact ⟨rfl, rfl⟩

def encP (r : Pa) : Array Value := #[.agg (pac r).toArray]
def XP (l : List Pa) (pre : List Pa) (x : Pa) (_V : World) : Prop := ∃ rest, pre ++ x :: rest = l

set_option maxRecDepth 100000 in
set_option maxHeartbeats 4000000 in
theorem fromLast1_in (n : Nat) (hn : 1 ≤ n) (l B b n₀ : Nat) (v : Value) (ls : List Pa) (J Jx : List Pa → World → Prop) (hlen : ls.length ≤ 1000)
    (hY : ∀ pre x V, J pre V → XP ls.reverse pre x V → YieldAt Fence.wide (n - 1) Try.prog l (encP x) V fun e V' => (e = .returned (.bool true) ∧ J (pre ++ [x]) V' ∧ Below n₀ V V') ∨ (e = .returned (.bool false) ∧ Jx (pre ++ [x]) V'))
    (W : World) (hB : W.cell? ⟨B, 0, none⟩ = some (.pointer (some ⟨b, 0, none⟩))) (hBn : B < n₀) (hbn : b < n₀) (hc : W.cell? ⟨b, 0, none⟩ = some v) (hR : RdP n₀ W v ls) (h0 : J [] W) :
    CallsIn Fence.wide n Try.prog 44 #[.func (.yield l) #[] #[], .pointer (some ⟨B, 0, none⟩)] W fun e W' => (∃ v, e = .returned v) ∧ ((∃ xs, xs = ls.reverse ∧ J xs W') ∨ (∃ pre, (∃ rest, pre ++ rest = ls.reverse) ∧ Jx pre W')) := by
  obtain ⟨sa, cap, rfl, hc1, hc2⟩ := hR.slice
  have HR := hide hR
  have hli : (ls.length : Int) ≤ 1000 := by omega
  have HB := hide hB
  have HC := hide hc
  clear hR
  refine callsIn_of_wp Try.func44 rfl trivial ?_ rfl
  simp only [Try.ntmps44, List.size_toArray, List.length_cons, List.length_nil, Nat.reduceAdd, Nat.reduceSub, Array.replicate_succ, Array.replicate_zero, List.push_toArray, List.append_toArray, List.nil_append, List.cons_append]
  gi_wp2
  gi_loopw [3] (fun i wx => ∃ k : Nat, k ≤ ls.length ∧ i = .int .i64 ((ls.length : Int) - 1 - (k : Int)) ∧ J (ls.reverse.take k) wx ∧ Below n₀ W wx) (fun i _ => ((intOf i) + 1).toNat)
  case atStart => exact ⟨0, by omega, by simp, by rw [List.take_zero]; exact h0, Below.refl _ _⟩
  case round =>
    obtain ⟨k, hk, rfl, hJk, hbk⟩ := hrel
    have hBr := (hbk.cell (p := ⟨B, 0, none⟩) hBn).trans HB.out
    have hcr := (hbk.cell (p := ⟨b, 0, none⟩) hbn).trans HC.out
    clear hB hc
    by_cases hkl : k < ls.length
    · have hq : ls.length - 1 - k < ls.length := by omega
      have hqi : (ls.length : Int) - 1 - (k : Int) = ((ls.length - 1 - k : Nat) : Int) := by omega
      obtain ⟨g, off, cp, e, _, _, hgn, hcs⟩ := (HR.out.below hbk).cells (by omega)
      simp at e
      obtain ⟨rfl, rfl⟩ := e
      have c0 := hcs (ls.length - 1 - k) hq 0 (by omega)
      have c1 := hcs (ls.length - 1 - k) hq 1 (by omega)
      have c2 := hcs (ls.length - 1 - k) hq 2 (by omega)
      have c3 := hcs (ls.length - 1 - k) hq 3 (by omega)
      have c4 := hcs (ls.length - 1 - k) hq 4 (by omega)
      have hrk : k < ls.reverse.length := by simpa using hkl
      have hre : ls.reverse[k] = ls[ls.length - 1 - k] := by rw [List.getElem_reverse]
      have hat : ∃ rest, ls.reverse.take k ++ ls.reverse[k] :: rest = ls.reverse := ⟨ls.reverse.drop (k + 1), by rw [← List.drop_eq_getElem_cons hrk, List.take_append_drop]⟩
      have htk : ls.reverse.take (k + 1) = ls.reverse.take k ++ [ls.reverse[k]] := (List.take_append_getElem hrk).symm
      have htl : ∃ rest, ls.reverse.take k ++ [ls.reverse[k]] ++ rest = ls.reverse := ⟨ls.reverse.drop (k + 1), by rw [List.take_append_getElem hrk, List.take_append_drop]⟩
      rw [hre] at hat htk htl
      rw [hqi]
      clear hcs hre
      generalize ls[ls.length - 1 - k] = r at *
      have HAT := hide hat
      have HTK := hide htk
      have HTL := hide htl
      clear hat htk htl
      generalize hqq : ls.length - 1 - k = q at *
      have hq' : (q : Int) < ls.length := by omega
      simp only [pac, List.getElem?_cons_zero, List.getElem?_cons_succ, Nat.add_zero] at c0 c1 c2 c3 c4
      obtain ⟨fn, tmps, assign, body, hy, hRr⟩ := hY _ r _ hJk HAT.out
      dsimp only [encP, pac] at hy
      gi_wp2
      refine hRr.mono ?_
      rintro e W3 (⟨rfl, hJ3, hk3⟩ | ⟨rfl, hJx3⟩)
      · gi_wp2
        go_roundw
        case rel => exact ⟨k + 1, by omega, by (congr 1; omega), by rw [HTK.out]; exact hJ3, hbk.trans hk3⟩
        case measure => first | (simp [intOf]; done) | (simp [intOf]; omega)
      · gi_wp2
        refine bodyPost_ret (results_none rfl _ _ _) rfl ?_
        exact ⟨⟨_, rfl⟩, .inr ⟨_, HTL.out, hJx3⟩⟩
    · obtain rfl : k = ls.length := by omega
      have hneg : (ls.length : Int) - 1 - (ls.length : Int) = -1 := by omega
      rw [hneg]
      gi_wp2
      go_end0
      exact ⟨⟨_, rfl⟩, .inl ⟨_, rfl, by rw [← List.length_reverse, List.take_length] at hJk; exact hJk⟩⟩
end Go.Proofs.Ytaaanmjmgnpcgaa
