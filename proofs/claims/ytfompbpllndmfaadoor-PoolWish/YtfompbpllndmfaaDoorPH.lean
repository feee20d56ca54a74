/- Package pool: New. -/
import Derived.Test.YtfompbpllndmfaaDoorPG
namespace Go.Proofs.YtfompbpllndmfaaDoor
open Go.RowKit Go.Shelf
set_option maxRecDepth 100000
attribute [local go_sem] Oper.semAt_some
set_option linter.unusedVariables false
set_option linter.unusedSimpArgs false

theorem built_pool0 (low high : Int) : Tryd.prog.built 52 [(0, .int .u16 low), (1, .int .u16 high)] = some (Value.int .u16 low :: .int .u16 high :: List.replicate 1024 (.int .u64 0)).toArray := by kernel_rfl
theorem pcl_zero (low high : Int) : (Value.int .u16 low :: .int .u16 high :: List.replicate 1024 (.int .u64 0)) = pcl low high (fun _ => 0) := by
  unfold pcl
  congr 2
theorem built_pool (low high : Int) : Tryd.prog.built 52 [(0, .int .u16 low), (1, .int .u16 high)] = some (pcl low high (fun _ => 0)).toArray := by rw [built_pool0, pcl_zero]
theorem wpListIn_bld {F : Fence} {n : Nat} {P : Program} {ops : Array Oper} {rest : List Oper} {o : Oper} {a : Act} {Q : Exit → Act → World → Prop} {w : World} (hr : F.round = none) (hg : o.guard = none) (t : TypeId) (parts : Array (Nat × Operand)) (ho : o.op = .build t parts) (cs : Array Value) (ps : List (Nat × Value)) (hp : (parts.map fun (i, x) => (i, a.eval x)).toList = ps) (hb : P.built t ps = some cs)
    (hk : wpListIn F n P ops Q rest (a.put o.dst (.agg cs)) w) : wpListIn F n P ops Q (o :: rest) a w := wpListIn_plain hg fun K hK => by
  subst hp
  have h : (o.semAt F.round a.eval).run P w = .ok (.value (.agg cs)) w := by
    rw [hr]
    show (execOp a.eval o).run P w = _
    unfold execOp
    simp only [ho, Sem.run_bind, run_build w t _ cs hb, Result.andThen_ok, Sem.run_pure]
  unfold Oper.wpIn
  rw [h]
  exact ⟨fun f hf => (by unfold Oper.about at hf; rw [ho] at hf; cases hf), hK _ _ hk⟩

theorem numbers_in (n : Nat) (b : Nat) (w : World) :
    CallsIn Fence.wide n Tryd.prog 24 #[.pointer (some ⟨b, 0, none⟩)] w fun e w' => e = .returned (.func (.func 35) #[] #[.pointer (some ⟨w.heap.size, 0, none⟩)]) ∧ w' = w.alloc (.cells #[.pointer (some ⟨b, 0, none⟩)] 24) := by
  refine callsIn_of_wp Tryd.func24 rfl trivial ?_ rfl
  simp only [Tryd.ntmps24, List.size_toArray, List.length_cons, List.length_nil, Nat.reduceAdd, Nat.reduceSub, Array.replicate_succ, Array.replicate_zero, List.push_toArray, List.append_toArray, List.nil_append, List.cons_append]
  gi_wp2
  go_ret
  exact ⟨rfl, rfl⟩

/-- The words behind numbers that are added. -/
def wsA (ws : Nat → Nat) (n : Nat) : Nat → Nat := upd ws (n / 64) (ws (n / 64) ||| 2 ^ (n % 64))
def wsOf (l : List Nat) : Nat → Nat := l.foldl wsA (fun _ => 0)
theorem wsOf_snoc (l : List Nat) (x : Nat) : wsOf (l ++ [x]) = wsA (wsOf l) x := by unfold wsOf; rw [List.foldl_append]; rfl
theorem fr_zero (m : Nat) : fr (fun _ => 0) m = false := by unfold fr; simp
theorem fr_wsOf (m : Nat) (l : List Nat) : fr (wsOf l) m = decide (m ∈ l) := by
  suffices h : ∀ k : List Nat, fr (wsOf k.reverse) m = decide (m ∈ k.reverse) by simpa using h l.reverse
  intro k
  induction k with
  | nil => exact fr_zero m
  | cons x k ih =>
    rw [List.reverse_cons, wsOf_snoc]
    unfold wsA
    rw [fr_add, ih, Bool.eq_iff_iff]
    simp
theorem mem_nums {low high m : Nat} (h : low ≤ high) : m ∈ nums low high ↔ low ≤ m ∧ m ≤ high := by
  unfold nums
  simp
  constructor
  · rintro ⟨i, hi, rfl⟩; omega
  · intro h2; exact ⟨m - low, by omega, by omega⟩

def CT (A B : World) : Prop := A.heap.size ≤ B.heap.size ∧ ∀ (k : Nat) (o : Obj), A.heap[k]? = some o → o.isCells = true → B.heap[k]? = some o
theorem CT.of {A B : World} (h : Later A B) : CT A B := ⟨h.size, fun k o ho _ => later_keep h ho⟩
theorem CT.row {A B : World} {row : Option Nat} (hg : A.grownBy B row) (hr : ∀ r, row = some r → ∃ o : Obj, A.heap[r]? = some o ∧ o.isCells = false) : CT A B :=
  ⟨hg.size, fun k o ho hc => (hg.block k (Array.getElem?_eq_some_iff.1 ho).1 (fun e => by obtain ⟨o', h1, h2⟩ := hr k e.symm; rw [ho] at h1; cases h1; rw [hc] at h2; cases h2)).trans ho⟩
theorem CT.put {A : World} {l : Nat} {o o' : Obj} (h : A.heap[l]? = some o) (hc : o.isCells = false) : CT A (A.putObj l o') :=
  CT.row (grownBy_putObj' A l o') (fun r e => by cases e; exact ⟨o, h, hc⟩)

/-- What New keeps while it adds. -/
def PNw (rb low high : Nat) (pre : List Nat) (W : World) : Prop := PB rb W rb (low : Int) (high : Int) (wsOf pre) ∧ W.heap[rb + 1]? = some (.cells #[.pointer (some ⟨rb, 0, none⟩)] 24 (0, 0))
theorem PNw.ct {rb low high : Nat} {pre : List Nat} {A B : World} (h : PNw rb low high pre A) (c : CT A B) : PNw rb low high pre B := ⟨⟨h.1.1, h.1.2.1, c.2 _ _ h.1.2.2 rfl⟩, c.2 _ _ h.2 rfl⟩
theorem kl_put {n₀ B b m : Nat} (hn : n₀ ≤ m) (hB : B < m) (hb : b < m) {W : World} {l : Nat} {o o' : Obj} (hl : m ≤ l) (ho : W.heap[l]? = some o) (hc : o.isCells = false) (hw : o.isWalk = false) : KL n₀ B b W (W.putObj l o') := by
  have hg := grownBy_putObj' W l o'
  have hblk : ∀ i, i < m → (W.putObj l o').heap[i]? = W.heap[i]? := fun i hi => by
    refine hg.block i ?_ (fun e => by cases e; omega)
    have := (Array.getElem?_eq_some_iff.1 ho).1
    omega
  refine ⟨⟨⟨hg.os, hg.tape, hg.output, hg.size, fun i hi => hblk i (by omega)⟩, fun v hv => (hblk B hB).trans hv⟩, fun i _ v hv => ?_⟩
  unfold World.cell? at hv ⊢
  rw [hblk b hb]
  exact hv

set_option maxRecDepth 100000 in
set_option maxHeartbeats 4000000 in
theorem new8_yes (low high : Nat) (hl1 : 1 ≤ low) (hlh : low ≤ high) (hh : high < 65536) (w : World) :
    Calls Tryd.prog 16 #[.int .u16 (low : Int), .int .u16 (high : Int)] w fun e w' => e = .returned (.pointer (some ⟨w.heap.size, 0, none⟩)) ∧ Later w w' ∧ PB w.heap.size w' w.heap.size low high (wsOf (nums low high)) := by
  have hl0 : ¬ (low : Int) = 0 := by omega
  have hgt : ¬ (high : Int) < (low : Int) := by omega
  have hb4 : Later w (((w.alloc (.cells (pcl (low : Int) (high : Int) (fun _ => 0)).toArray 52)).alloc (.cells #[.pointer (some ⟨w.heap.size, 0, none⟩)] 24)).alloc (.cells #[.pointer (some ⟨w.heap.size, 0, none⟩)] 24)) := (((Below.refl _ _).alloc (Nat.le_refl _) _).alloc (by simp) _).alloc (by simp <;> omega) _
  have c0 : (((w.alloc (.cells (pcl (low : Int) (high : Int) (fun _ => 0)).toArray 52)).alloc (.cells #[.pointer (some ⟨w.heap.size, 0, none⟩)] 24)).alloc (.cells #[.pointer (some ⟨w.heap.size, 0, none⟩)] 24)).heap[w.heap.size]? = some (.cells (pcl (low : Int) (high : Int) (fun _ => 0)).toArray 52) := (Below.heap_alloc _ _ _ (by simp <;> omega)).trans ((Below.heap_alloc _ _ _ (by simp)).trans (heap_alloc_new w _))
  have c1 : (((w.alloc (.cells (pcl (low : Int) (high : Int) (fun _ => 0)).toArray 52)).alloc (.cells #[.pointer (some ⟨w.heap.size, 0, none⟩)] 24)).alloc (.cells #[.pointer (some ⟨w.heap.size, 0, none⟩)] 24)).heap[w.heap.size + 1]? = some (.cells #[.pointer (some ⟨w.heap.size, 0, none⟩)] 24) := by
    have := heap_alloc_new (w.alloc (.cells (pcl (low : Int) (high : Int) (fun _ => 0)).toArray 52)) (.cells #[.pointer (some ⟨w.heap.size, 0, none⟩)] 24)
    rw [World.size_alloc] at this
    exact (Below.heap_alloc _ _ _ (by simp)).trans this
  have c2 : (((w.alloc (.cells (pcl (low : Int) (high : Int) (fun _ => 0)).toArray 52)).alloc (.cells #[.pointer (some ⟨w.heap.size, 0, none⟩)] 24)).alloc (.cells #[.pointer (some ⟨w.heap.size, 0, none⟩)] 24)).heap[w.heap.size + 1 + 1]? = some (.cells #[.pointer (some ⟨w.heap.size, 0, none⟩)] 24) := by
    have := heap_alloc_new ((w.alloc (.cells (pcl (low : Int) (high : Int) (fun _ => 0)).toArray 52)).alloc (.cells #[.pointer (some ⟨w.heap.size, 0, none⟩)] 24)) (.cells #[.pointer (some ⟨w.heap.size, 0, none⟩)] 24)
    simpa only [World.size_alloc] using this
  have hs4 : (((w.alloc (.cells (pcl (low : Int) (high : Int) (fun _ => 0)).toArray 52)).alloc (.cells #[.pointer (some ⟨w.heap.size, 0, none⟩)] 24)).alloc (.cells #[.pointer (some ⟨w.heap.size, 0, none⟩)] 24)).heap.size = w.heap.size + 1 + 1 + 1 := by simp
  have C0 := hide c0
  have C1 := hide c1
  have C2 := hide c2
  have HS4 := hide hs4
  clear c0 c1 c2 hs4
  refine (callsIn_wide (n := 5)).1 ?_
  refine callsIn_of_wp_marks Tryd.func16 rfl trivial ?_ rfl
  simp only [Tryd.ntmps16, List.size_toArray, List.length_cons, List.length_nil, Nat.reduceAdd, Nat.reduceSub, Array.replicate_succ, Array.replicate_zero, List.push_toArray, List.append_toArray, List.nil_append, List.cons_append]
  gi_wp2_with (first | (refine wpListIn_bld rfl rfl 52 #[(0, .tmp 14), (1, .tmp 15)] rfl _ [(0, .int .u16 (low : Int)), (1, .int .u16 (high : Int))] (by go_loud (first | rfl | simp [go_sem])) (built_pool (low : Int) (high : Int)) ?_) | (refine ⟨trivial, ?_⟩; gi_at_call 24; refine (numbers_in _ _ _).mono ?_; rintro e w' ⟨rfl, rfl⟩))
  generalize (((w.alloc (.cells (pcl (low : Int) (high : Int) (fun _ => 0)).toArray 52)).alloc (.cells #[.pointer (some ⟨w.heap.size, 0, none⟩)] 24)).alloc (.cells #[.pointer (some ⟨w.heap.size, 0, none⟩)] 24)) = w4 at *
  have hs4 : w4.heap.size = w.heap.size + 1 + 1 + 1 := HS4.out
  have hPB0 : PB w.heap.size w4 w.heap.size (low : Int) (high : Int) (wsOf []) := ⟨Nat.le_refl _, fun i => by show 0 < _; omega, C0.out⟩
  refine wpIn_rangeX (w := w4) rfl (by omega) (gf := 35) (lb := #[.pointer (some ⟨w.heap.size + 1 + 1, 0, none⟩)]) rfl trivial (enters_of Tryd.func35 (by kernel_rfl) rfl)
    (numb_gen 4 (by omega) (w.heap.size + 1 + 1) w.heap.size w.heap.size low high hlh hh w4 C2.out (by omega) hPB0.low hPB0.high)
    (fun h k => h.trans k) (fun W l o o' hl ho hc hw => kl_put (by omega) (by omega) (by omega) hl ho hc hw) (fun hA hL => KL.of hL (by omega)) (fun _ _ _ _ h _ => h) (fun _ _ _ _ _ _ _ _ _ h => h) (fun _ => rfl)
    (fun pre W => PNw w.heap.size low high pre W ∧ Below w.heap.size w W) (fun pre W => False)
    (OwnFrom.and (fun s A B row hs hg hr => hs.ct (CT.row hg (fun r e => (hr r e).2))) (ownFrom_below (Nat.le_refl _) (by omega)))
    (fun s A B h l => ⟨h.1.ct (CT.of l), h.2.trans (l.mono h.2.size)⟩)
    (fun s A B row hs hg hr => hs)
    ⟨⟨hPB0, C1.out⟩, hb4⟩
    (fun x a' W => a' = { tmps := #[.int .u16 (low : Int), .int .u16 (high : Int), undef, undef, .pointer none, .pointer (some ⟨w.heap.size + 1, 0, none⟩), .int .u16 (x : Int), .int .u16 (low : Int), .bool false, .bool false, .int .u16 (low : Int), .int .u16 (high : Int), .bool false, .bool false, .int .u16 (low : Int), .int .u16 (high : Int), .agg (pcl (low : Int) (high : Int) (fun _ => 0)).toArray, .pointer (some ⟨w.heap.size, 0, none⟩), .pointer (some ⟨w.heap.size, 0, none⟩), .func (.func 35) #[] #[.pointer (some ⟨w.heap.size + 1 + 1, 0, none⟩)], .int .u16 (x : Int), undef, undef, undef, undef, undef, undef], defers := [] })
    (fun x a' W l o o' hl ho hc h => h) ?assign ?body ?done ?stop
  case assign =>
    rintro l pre x W K hsz _ hX hK
    dsimp only [encN]
    gi_wp2
    exact hK _ _ (Later.refl _) rfl
  case body =>
    rintro l pre x a' W ⟨⟨hPB, h1⟩, hbW⟩ hX rfl
    have hxm : x < 65536 := by
      obtain ⟨rest, e⟩ := hX
      have : x ∈ nums low high := by rw [← e]; simp
      have := (mem_nums hlh).1 this
      omega
    have HAD := hide (((callsIn_wide (n := 2)).2 (add_any w.heap.size w.heap.size (low : Int) (high : Int) (wsOf pre) x W hPB hxm)).inRound l)
    have K1 := block_cell h1
    have hbsz := hbW.size
    gi_wp2
    refine ⟨trivial, HAD.out.mono ?_⟩
    rintro e W1 ⟨⟨u, rfl⟩, hPB1, hbt1⟩
    have hb1 : Below w.heap.size W W1 := hbt1.below hbsz (fun k hk e => by omega)
    have h11 := (hbt1.block _ (Array.getElem?_eq_some_iff.1 h1).1 (by omega)).trans h1
    have hsn : wsOf (pre ++ [x]) = upd (wsOf pre) (x / 64) (wsOf pre (x / 64) ||| 2 ^ (x % 64)) := wsOf_snoc pre x
    have HSN := hide hsn
    clear hsn
    gi_wp2
    refine ⟨⟨hbt1.size, fun i o hi ho hc => (hbt1.block i (Array.getElem?_eq_some_iff.1 ho).1 (by omega)).trans ho⟩, ⟨⟨hb1, fun o ho => (hbt1.block _ (Array.getElem?_eq_some_iff.1 ho).1 (by omega)).trans ho⟩, fun i hi v hv => ?_⟩, ⟨by rw [HSN.out]; exact hPB1, h11⟩, hbW.trans hb1⟩
    rcases (show i = 0 ∨ i = 1 by omega) with rfl | rfl
    · rw [hPB.low] at hv
      rw [hPB1.low]
      exact hv
    · rw [hPB.high] at hv
      rw [hPB1.high]
      exact hv
  case done =>
    rintro D xs W hD rfl ⟨⟨hPB, h1⟩, hbW⟩ hK
    have K1 := block_cell h1
    gi_wp2
    refine ⟨by simp, .inl ⟨_, _, rfl, run_takeDeferred hK, ?_⟩⟩
    exact ⟨.pointer (some ⟨w.heap.size, 0, none⟩), by simp [results, Tryd.results16, go_sem], rfl, hbW.trans (belowK_b (w := w) (Nat.le_refl _) W D _ _ (by omega) hK rfl rfl), hPB.1, hPB.2.1, (CT.put (o' := .deferred none) hK rfl).2 _ _ hPB.2.2 rfl⟩
  case stop =>
    rintro D pre W hD hSp hF hK
    exact hF.elim
end Go.Proofs.YtfompbpllndmfaaDoor
