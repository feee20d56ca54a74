/- Package pool: first. -/
import Derived.Test.YtfompbpllndmfaaDoorPH
namespace Go.Proofs.YtfompbpllndmfaaDoor
open Go.RowKit Go.Shelf
set_option maxRecDepth 100000
attribute [local go_sem] Oper.semAt_some
set_option linter.unusedVariables false
set_option linter.unusedSimpArgs false

def fsn (q : Bool) (wish : Nat) (L : List Nat) : Nat := if q then wish else L.head?.getD 0
def fsb (q : Bool) (L : List Nat) : Bool := q || !L.isEmpty
def XL (L : List Nat) (pre : List Nat) (x : Nat) (_V : World) : Prop := ∃ rest, pre ++ x :: rest = L
/-- What first keeps ahead of the first number. -/
def PF0 (rb : Nat) (pre : List Nat) (W : World) : Prop := pre = [] ∧ W.heap[rb]? = some (.cells #[.int .u16 0] 22 (0, 0)) ∧ W.heap[rb + 1]? = some (.cells #[.bool false] 4 (0, 0))
theorem PF0.ct {rb : Nat} {pre : List Nat} {A B : World} (h : PF0 rb pre A) (c : CT A B) : PF0 rb pre B := ⟨h.1, c.2 _ _ h.2.1 rfl, c.2 _ _ h.2.2 rfl⟩
def PF1 (rb : Nat) (L pre : List Nat) (W : World) : Prop := ∃ x rest, pre = [x] ∧ L = x :: rest ∧ W.heap[rb]? = some (.cells #[.int .u16 (x : Int)] 22 (0, 0)) ∧ W.heap[rb + 1]? = some (.cells #[.bool true] 4 (0, 0))
theorem PF1.ct {rb : Nat} {L pre : List Nat} {A B : World} (h : PF1 rb L pre A) (c : CT A B) : PF1 rb L pre B := by
  obtain ⟨x, rest, h1, h2, h3, h4⟩ := h
  exact ⟨x, rest, h1, h2, c.2 _ _ h3 rfl, c.2 _ _ h4 rfl⟩

theorem set_two {W : World} {rb : Nat} {x0 : Int} {t0 : Bool} (h0 : W.heap[rb]? = some (.cells #[.int .u16 x0] 22 (0, 0))) (h1 : W.heap[rb + 1]? = some (.cells #[.bool t0] 4 (0, 0))) (x : Int) (t : Bool) :
    ((W.setCell ⟨rb, 0, none⟩ (.int .u16 x)).setCell ⟨rb + 1, 0, none⟩ (.bool t)).heap[rb]? = some (.cells #[.int .u16 x] 22 (0, 0)) ∧ ((W.setCell ⟨rb, 0, none⟩ (.int .u16 x)).setCell ⟨rb + 1, 0, none⟩ (.bool t)).heap[rb + 1]? = some (.cells #[.bool t] 4 (0, 0)) ∧ But (fun g => g = rb ∨ g = rb + 1) W ((W.setCell ⟨rb, 0, none⟩ (.int .u16 x)).setCell ⟨rb + 1, 0, none⟩ (.bool t)) := by
  have v0 := heap_set1 h0 0 (.int .u16 x)
  have v1 := (Below.heap_setCell W ⟨rb, 0, none⟩ (.int .u16 x) (rb + 1) (by simp)).trans h1
  refine ⟨(Below.heap_setCell _ ⟨rb + 1, 0, none⟩ (.bool t) rb (by simp)).trans v0, heap_set1 v1 0 (.bool t), ?_⟩
  exact ((But.refl (fun g => g = rb ∨ g = rb + 1) W).setCell (p := ⟨rb, 0, none⟩) (.inl rfl) _).setCell (p := ⟨rb + 1, 0, none⟩) (.inr rfl) _

theorem first_end (rb D : Nat) (x : Int) (t : Bool) (W w : World) (hD : rb + 1 + 1 ≤ D) (hb : Below w.heap.size w W) (h1 : W.heap[rb]? = some (.cells #[.int .u16 x] 22 (0, 0))) (h2 : W.heap[rb + 1]? = some (.cells #[.bool t] 4 (0, 0))) (hK : W.heap[D]? = some (.deferred (some [])))
    (hrb : w.heap.size ≤ rb) (t0 t1 t2 t3 t4 t5 t8 t9 t10 t11 t12 t13 t14 t15 : Value) :
    bodyPostM Fence.wide 5 Tryd.prog Tryd.f20 (fun e w' => e = .returned (.tuple #[.int .u16 x, .bool t]) ∧ Later w w') Exit.ret
      { tmps := #[t0, t1, t2, t3, t4, t5, .pointer (some ⟨rb, 0, none⟩), .pointer (some ⟨rb + 1, 0, none⟩), t8, t9, t10, t11, t12, t13, t14, t15], defers := [{ target := .collected D, args := #[] }] } W := by
  refine ⟨by simp, .inl ⟨_, _, rfl, run_takeDeferred hK, ?_⟩⟩
  have z1 := (CT.put (o' := .deferred none) hK rfl).2 _ _ h1 rfl
  have z2 := (CT.put (o' := .deferred none) hK rfl).2 _ _ h2 rfl
  have k1 := block_cell z1
  have k2 := block_cell z2
  refine ⟨.tuple #[.int .u16 x, .bool t], by simp [results, Tryd.results20, go_sem, k1, k2], rfl, hb.trans (belowK_b (w := w) (Nat.le_refl _) W D _ _ (by omega) hK rfl rfl)⟩

set_option maxRecDepth 100000 in
set_option maxHeartbeats 4000000 in
theorem first8_any (wish cf gf : Nat) (pb : Value) (lb : Array Value) (q : Bool) (L : List Nat) (Kp : World → World → Prop) (w : World) (eg : ∀ args w, (callFunc cf args).run Tryd.prog w = .ok (.enter cf args) w) (egf : ∀ args w, (callFunc gf args).run Tryd.prog w = .ok (.enter gf args) w)
    (hq : ∀ W, Later w W → Calls Tryd.prog cf #[pb, .int .u16 (wish : Int)] W fun e W' => e = .returned (.bool q) ∧ Later W W')
    (hgen : ∀ w4, Later w w4 → GenX Fence.wide 4 Tryd.prog gf lb encN Kp (XL L) (fun xs => xs = L) (fun _ => True) w4)
    (hKt : ∀ {A B C : World}, Kp A B → Kp B C → Kp A C) (hKb : ∀ (w4 W : World) (l : Nat) (o o' : Obj), Later w w4 → w4.heap.size ≤ l → W.heap[l]? = some o → o.isCells = false → o.isWalk = false → Kp W (W.putObj l o'))
    (hKl : ∀ {w4 A B : World}, Later w w4 → w4.heap.size ≤ A.heap.size → Later A B → Kp A B) :
    Calls Tryd.prog 20 #[.int .u16 (wish : Int), .func (.func cf) #[pb] #[], .func (.func gf) #[] lb] w fun e w' => e = .returned (.tuple #[.int .u16 (fsn q wish L : Nat), .bool (fsb q L)]) ∧ Later w w' := by
  refine (callsIn_wide (n := 5)).1 ?_
  refine callsIn_of_wp_marks Tryd.func20 rfl trivial ?_ rfl
  simp only [Tryd.ntmps20, List.size_toArray, List.length_cons, List.length_nil, Nat.reduceAdd, Nat.reduceSub, Array.replicate_succ, Array.replicate_zero, List.push_toArray, List.append_toArray, List.nil_append, List.cons_append]
  have hb2 : Later w ((w.alloc (.cells #[.int .u16 0] 22)).alloc (.cells #[.bool false] 4)) := ((Below.refl _ _).alloc (Nat.le_refl _) _).alloc (by simp) _
  have c0 : ((w.alloc (.cells #[.int .u16 0] 22)).alloc (.cells #[.bool false] 4)).heap[w.heap.size]? = some (.cells #[.int .u16 0] 22) := (Below.heap_alloc _ _ _ (by simp)).trans (heap_alloc_new w _)
  have c1 : ((w.alloc (.cells #[.int .u16 0] 22)).alloc (.cells #[.bool false] 4)).heap[w.heap.size + 1]? = some (.cells #[.bool false] 4) := by
    have := heap_alloc_new (w.alloc (.cells #[.int .u16 0] 22)) (.cells #[.bool false] 4)
    rw [World.size_alloc] at this
    exact this
  have C0 := hide c0
  have C1 := hide c1
  have HQ := hide hq
  have HEG := hide eg
  clear c0 c1 hq eg
  gi_wp2
  refine ⟨trivial, ?_⟩
  rw [HEG.out]
  simp only [Oper.uponIn]
  generalize hw2 : (w.alloc (.cells #[.int .u16 0] 22)).alloc (.cells #[.bool false] 4) = w2 at *
  clear hw2
  refine ⟨fun _ => by omega, (callsIn_wide.2 (HQ.out w2 hb2)).mono ?_⟩
  rintro e w4 ⟨rfl, l4⟩
  have hb4 : Later w w4 := hb2.trans l4
  have d0 := later_keep l4 C0.out
  have d1 := later_keep l4 C1.out
  have hs4 : w.heap.size + 1 + 1 ≤ w4.heap.size := by have := (Array.getElem?_eq_some_iff.1 d1).1; omega
  cases q with
  | true =>
    have K0 := block_cell d0
    have K1 := block_cell d1
    have F0 := block_frozen d0
    have F1 := block_frozen d1
    gi_wp2
    obtain ⟨v0, v1, hb5⟩ := set_two d0 d1 (wish : Int) true
    generalize (w4.setCell ⟨w.heap.size, 0, none⟩ (.int .u16 (wish : Int))).setCell ⟨w.heap.size + 1, 0, none⟩ (.bool true) = V at *
    have k2 := block_cell v0
    have k3 := block_cell v1
    exact ⟨.tuple #[.int .u16 (wish : Int), .bool true], by simp [results, Tryd.results20, go_sem, k2, k3], rfl, Below.trans hb4 (hb5.below hb4.size (fun k hk e => by omega))⟩
  | false =>
    gi_wp2
    refine wpIn_rangeX (w := w4) rfl (by omega) (gf := gf) (lb := lb) rfl trivial egf (hgen w4 hb4) hKt (fun W l o o' hl ho hc hw => hKb w4 W l o o' hb4 hl ho hc hw) (fun hA hL => hKl hb4 hA hL) (fun _ _ _ _ h _ => h) (fun _ _ _ _ _ _ _ _ _ h => h) (fun _ => rfl)
      (fun pre W => PF0 w.heap.size pre W ∧ Below w.heap.size w W) (fun pre W => PF1 w.heap.size L pre W ∧ Below w.heap.size w W)
      (OwnFrom.and (fun s A B row hs hg hr => hs.ct (CT.row hg (fun r e => (hr r e).2))) (ownFrom_below (Nat.le_refl _) (by omega)))
      (fun s A B h l => ⟨h.1.ct (CT.of l), h.2.trans (l.mono h.2.size)⟩)
      (OwnFrom.and (fun s A B row hs hg hr => hs.ct (CT.row hg (fun r e => (hr r e).2))) (ownFrom_below (Nat.le_refl _) (by omega)))
      ⟨⟨rfl, d0, d1⟩, hb4⟩
      (fun x a' W => a' = { tmps := #[.int .u16 (wish : Int), .func (.func cf) #[pb] #[], .func (.func gf) #[] lb, undef, undef, undef, .pointer (some ⟨w.heap.size, 0, none⟩), .pointer (some ⟨w.heap.size + 1, 0, none⟩), .int .u16 (x : Int), .func (.func cf) #[pb] #[], .int .u16 (wish : Int), .bool false, undef, .func (.func gf) #[] lb, .int .u16 (x : Int), undef], defers := [] })
      (fun x a' W l o o' hl ho hc h => h) ?assign ?body ?done ?stop
    case assign =>
      rintro l pre x W K hsz _ hX hK
      dsimp only [encN]
      gi_wp2
      exact hK _ _ (Later.refl _) rfl
    case body =>
      rintro l pre x a' W ⟨⟨rfl, h0, h1⟩, hbW⟩ hX rfl
      obtain ⟨rest, hL⟩ := hX
      have K0 := block_cell h0
      have K1 := block_cell h1
      have F0 := block_frozen h0
      have F1 := block_frozen h1
      have hbsz := hbW.size
      gi_wp2
      obtain ⟨v0, v1, hb5⟩ := set_two h0 h1 (x : Int) true
      generalize (W.setCell ⟨w.heap.size, 0, none⟩ (.int .u16 (x : Int))).setCell ⟨w.heap.size + 1, 0, none⟩ (.bool true) = V at *
      exact ⟨⟨hb5.size, fun i o hi ho hc => (hb5.block i (Array.getElem?_eq_some_iff.1 ho).1 (by omega)).trans ho⟩, ⟨x, rest, rfl, hL.symm, v0, v1⟩, hbW.trans (hb5.below hbsz (fun k hk e => by omega))⟩
    case done =>
      rintro D xs W hD rfl ⟨⟨hx, h0, h1⟩, hbW⟩ hK
      subst hx
      have K0 := block_cell h0
      have K1 := block_cell h1
      have F0 := block_frozen h0
      have F1 := block_frozen h1
      have hbsz := hbW.size
      gi_wp2
      obtain ⟨v0, v1, hb5⟩ := set_two h0 h1 0 false
      have hD5 := (hb5.block D (Array.getElem?_eq_some_iff.1 hK).1 (by omega)).trans hK
      generalize (W.setCell ⟨w.heap.size, 0, none⟩ (.int .u16 0)).setCell ⟨w.heap.size + 1, 0, none⟩ (.bool false) = V at *
      exact first_end w.heap.size D 0 false V w (by omega) (hbW.trans (hb5.below hbsz (fun k hk e => by omega))) v0 v1 hD5 (Nat.le_refl _) _ _ _ _ _ _ _ _ _ _ _ _ _ _
    case stop =>
      rintro D pre W hD hSp ⟨⟨x, rest, rfl, hL, h0, h1⟩, hbW⟩ hK
      subst hL
      gi_wp2
      exact first_end w.heap.size D (x : Int) true W w (by omega) hbW h0 h1 hK (Nat.le_refl _) _ _ _ _ _ _ _ _ _ _ _ _ _ _
end Go.Proofs.YtfompbpllndmfaaDoor
