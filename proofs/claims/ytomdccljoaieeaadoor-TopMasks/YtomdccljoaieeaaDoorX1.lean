/- Several texts in one. -/
import Derived.Test.YtomdccljoaieeaaDoorX2
import Derived.Deep.DeepCutAuto
import Derived.Deep.CutBlock
import Derived.Deep.AppendLies
import Derived.Test.YtomdccljoaieeaaDoorX3
import Derived.Deep.Cut
import Derived.Lib.SlBytesConst
import Derived.Lib.SmallJoins
/- Package rules: all rules, the first that is wanted. -/
namespace Go.Proofs.YtomdccljoaieeaaDoor
open Go.RowKit Go.Shelf
set_option maxRecDepth 100000
attribute [local go_sem] Oper.semAt_some
set_option linter.unusedVariables false
set_option linter.unusedSimpArgs false

def encU (r : Ru) : Array Value := #[.agg (ruc r).toArray]
def XU (l : List Ru) (pre : List Ru) (x : Ru) (_V : World) : Prop := ∃ rest, pre ++ x :: rest = l

theorem allU_in (n : Nat) (p : Option Addr) (w : World) :
    CallsIn Fence.wide n Tryd.prog 19 #[.pointer p] w fun e w' => e = .returned (.func (.func 44) #[] #[.pointer (some ⟨w.heap.size, 0, none⟩)]) ∧ w' = w.alloc (.cells #[.pointer p] 25) := by
  refine callsIn_of_wp Tryd.func19 rfl trivial ?_ rfl
  simp only [Tryd.ntmps19, List.size_toArray, List.length_cons, List.length_nil, Nat.reduceAdd, Nat.reduceSub, Array.replicate_succ, Array.replicate_zero, List.push_toArray, List.append_toArray, List.nil_append, List.cons_append]
  gi_wp2
  go_ret
  exact ⟨rfl, rfl⟩

set_option maxRecDepth 100000 in
set_option maxHeartbeats 4000000 in
theorem allU1_in (n : Nat) (hn : 1 ≤ n) (l B b n₀ : Nat) (v : Value) (ls : List Ru) (J Jx : List Ru → World → Prop)
    (hJ : ∀ s A B, J s A → Later A B → J s B)
    (hY : ∀ pre x V, J pre V → XU ls pre x V → YieldAt Fence.wide (n - 1) Tryd.prog l (encU x) V fun e V' => (e = .returned (.bool true) ∧ J (pre ++ [x]) V' ∧ Below n₀ V V') ∨ (e = .returned (.bool false) ∧ Jx (pre ++ [x]) V'))
    (W : World) (hB : W.cell? ⟨B, 0, none⟩ = some (.pointer (some ⟨b, 0, none⟩))) (hn0 : n₀ ≤ W.heap.size) (hc : W.cell? ⟨b, 0, none⟩ = some v) (hR : RdQ n₀ W v ls) (h0 : J [] W) :
    CallsIn Fence.wide n Tryd.prog 44 #[.func (.yield l) #[] #[], .pointer (some ⟨B, 0, none⟩)] W fun e W' => (∃ v, e = .returned v) ∧ ((∃ xs, xs = ls ∧ J xs W') ∨ (∃ pre, (∃ rest, pre ++ rest = ls) ∧ Jx pre W')) := by
  obtain ⟨sa, cap, rfl, hc1, hc2⟩ := hR.slice
  have HR := hide hR
  clear hR
  refine callsIn_of_wp Tryd.func44 rfl trivial ?_ rfl
  simp only [Tryd.ntmps44, List.size_toArray, List.length_cons, List.length_nil, Nat.reduceAdd, Nat.reduceSub, Array.replicate_succ, Array.replicate_zero, List.push_toArray, List.append_toArray, List.nil_append, List.cons_append]
  gi_wp2
  gi_loopw [12] (fun i wx => ∃ k : Nat, k ≤ ls.length ∧ i = .int .i64 (k : Int) ∧ J (ls.take k) wx ∧ Below n₀ W wx) (fun i _ => ls.length - (intOf i).toNat)
  case atStart => exact ⟨0, by omega, rfl, by rw [List.take_zero]; exact h0, Below.refl _ _⟩
  case round =>
    obtain ⟨k, hk, rfl, hJk, hbk⟩ := hrel
    by_cases hkl : k < ls.length
    · obtain ⟨g, off, cp, e, _, _, hgn, hcs⟩ := (HR.out.below hbk).cells (by omega)
      simp at e
      obtain ⟨rfl, rfl⟩ := e
      have c0 := hcs k hkl 0 (by omega)
      have c1 := hcs k hkl 1 (by omega)
      have c2 := hcs k hkl 2 (by omega)
      have c3 := hcs k hkl 3 (by omega)
      have c4 := hcs k hkl 4 (by omega)
      have c5 := hcs k hkl 5 (by omega)
      have c6 := hcs k hkl 6 (by omega)
      have c7 := hcs k hkl 7 (by omega)
      have hkl' : (k : Int) < ls.length := by omega
      have hat : ∃ rest, ls.take k ++ ls[k] :: rest = ls := ⟨ls.drop (k + 1), by rw [← List.drop_eq_getElem_cons hkl, List.take_append_drop]⟩
      have htk : ls.take (k + 1) = ls.take k ++ [ls[k]] := (List.take_append_getElem hkl).symm
      have htl : ∃ rest, ls.take k ++ [ls[k]] ++ rest = ls := ⟨ls.drop (k + 1), by rw [List.take_append_getElem hkl, List.take_append_drop]⟩
      clear hcs
      generalize hgo : ls[k] = r at *
      have HAT := hide hat
      have HTK := hide htk
      have HTL := hide htl
      clear hgo hat htk htl
      simp only [ruc, List.getElem?_cons_zero, List.getElem?_cons_succ, Nat.add_zero] at c0 c1 c2 c3 c4 c5 c6 c7
      have la : Later wr (wr.alloc (.cells #[.int .i64 r.kind, .int .u8 r.proto, .int .u32 r.net, .int .i64 r.bits, .int .u32 r.tt, .int .u16 r.port, .int .u32 r.host, .int .u16 r.hp] 33)) := (Below.refl _ _).alloc (Nat.le_refl _) _
      obtain ⟨fn, tmps, assign, body, hy, hR⟩ := hY _ r _ (hJ _ _ _ hJk la) HAT.out
      dsimp only [encU, ruc] at hy
      have hwr := Nat.le_trans hn0 hbk.size
      gi_wp2
      refine hR.mono ?_
      rintro e W3 (⟨rfl, hJ3, hk3⟩ | ⟨rfl, hJx3⟩)
      · gi_wp2
        go_roundw
        case rel => exact ⟨k + 1, by omega, by go_num, by rw [HTK.out]; exact hJ3, hbk.trans ((la.mono hwr).trans hk3)⟩
        case measure => simp [intOf]; omega
      · gi_wp2
        refine bodyPost_ret (results_none rfl _ _ _) rfl ?_
        exact ⟨⟨_, rfl⟩, .inr ⟨_, HTL.out, hJx3⟩⟩
    · obtain rfl : k = ls.length := by omega
      gi_wp2
      go_end0
      exact ⟨⟨_, rfl⟩, .inl ⟨_, rfl, by rw [List.take_length] at hJk; exact hJk⟩⟩

theorem allU1_nil (n : Nat) (l B : Nat) (J Jx : List Ru → World → Prop) (W : World) (hB : W.cell? ⟨B, 0, none⟩ = some (.pointer none)) (h0 : J [] W) :
    CallsIn Fence.wide n Tryd.prog 44 #[.func (.yield l) #[] #[], .pointer (some ⟨B, 0, none⟩)] W fun e W' => (∃ v, e = .returned v) ∧ ((∃ xs, xs = [] ∧ J xs W') ∨ (∃ pre, (∃ rest, pre ++ rest = []) ∧ Jx pre W')) := by
  refine callsIn_of_wp Tryd.func44 rfl trivial ?_ rfl
  simp only [Tryd.ntmps44, List.size_toArray, List.length_cons, List.length_nil, Nat.reduceAdd, Nat.reduceSub, Array.replicate_succ, Array.replicate_zero, List.push_toArray, List.append_toArray, List.nil_append, List.cons_append]
  gi_wp2
  refine bodyPost_ret (results_none rfl _ _ _) rfl ?_
  exact ⟨⟨_, rfl⟩, .inl ⟨_, rfl, h0⟩⟩

/-- The rules that a pointer leads to: none of nil. -/
def PL (base : Nat) (W : World) (p : Option Addr) (l : List Ru) : Prop := (p = none ∧ l = []) ∨ ∃ b v, p = some ⟨b, 0, none⟩ ∧ RL 56 base W b v l
theorem PL.later {base : Nat} {A B : World} {p : Option Addr} {l : List Ru} (h : PL base A p l) (k : Later A B) : PL base B p l := h.imp id fun ⟨b, v, e, h⟩ => ⟨b, v, e, h.later k⟩

theorem allU_gen (n : Nat) (hn : 1 ≤ n) (B base : Nat) (p : Option Addr) (ls : List Ru) (w0 w : World) (hT : PL base w0 p ls) (hw : Later w0 w) (hBl : B < w.heap.size) (hB : w.cell? ⟨B, 0, none⟩ = some (.pointer p)) :
    GenX Fence.wide n Tryd.prog 44 #[.pointer (some ⟨B, 0, none⟩)] encU (Below w0.heap.size) (XU ls) (fun xs => xs = ls) (fun pre => ∃ rest, pre ++ rest = ls) w := fun l J Jx W hW hJ hY h0 => by
  have hwW : Later w0 W := hw.trans hW
  have hBW := (hW.cell (p := ⟨B, 0, none⟩) hBl).trans hB
  rcases hT with ⟨rfl, rfl⟩ | ⟨b, v, rfl, hT⟩
  · exact allU1_nil n l B J Jx W hBW h0
  · exact allU1_in n hn l B b w0.heap.size v ls J Jx hJ hY W hBW hwW.size ((block_cell (hT.later hwW).2.1 0).trans rfl) ((ownU_rd hT.2.2).below hwW) h0
end Go.Proofs.YtomdccljoaieeaaDoor

/- Package rules: the first rule that is wanted. -/
namespace Go.Proofs.YtomdccljoaieeaaDoor
open Go.RowKit Go.Shelf
set_option maxRecDepth 100000
attribute [local go_sem] Oper.semAt_some
set_option linter.unusedVariables false
set_option linter.unusedSimpArgs false

def CTu (A B : World) : Prop := A.heap.size ≤ B.heap.size ∧ ∀ (k : Nat) (o : Obj), A.heap[k]? = some o → o.isCells = true → B.heap[k]? = some o
theorem CTu.of {A B : World} (h : Later A B) : CTu A B := ⟨h.size, fun k o ho _ => later_keep h ho⟩
theorem CTu.row {A B : World} {row : Option Nat} (hg : A.grownBy B row) (hr : ∀ r, row = some r → ∃ o : Obj, A.heap[r]? = some o ∧ o.isCells = false) : CTu A B :=
  ⟨hg.size, fun k o ho hc => (hg.block k (Array.getElem?_eq_some_iff.1 ho).1 (fun e => by obtain ⟨o', h1, h2⟩ := hr k e.symm; rw [ho] at h1; cases h1; rw [hc] at h2; cases h2)).trans ho⟩
theorem CTu.put {A : World} {l : Nat} {o o' : Obj} (h : A.heap[l]? = some o) (hc : o.isCells = false) : CTu A (A.putObj l o') :=
  CTu.row (grownBy_putObj' A l o') (fun r e => by cases e; exact ⟨o, h, hc⟩)

/-- The first that is wanted; is there one? -/
def fnd (p : Ru → Bool) (l : List Ru) : Ru := (l.find? p).getD zRu
def fdb (p : Ru → Bool) (l : List Ru) : Bool := (l.find? p).isSome
theorem fnd_no {p : Ru → Bool} {l : List Ru} (h : ∀ x ∈ l, p x = false) : fnd p l = zRu ∧ fdb p l = false := by
  have : l.find? p = none := by rw [List.find?_eq_none]; intro x hx; rw [h x hx]; simp
  unfold fnd fdb
  rw [this]
  exact ⟨rfl, rfl⟩
theorem fnd_yes {p : Ru → Bool} {pre : List Ru} {x : Ru} {rest : List Ru} (h : ∀ y ∈ pre, p y = false) (hx : p x = true) : fnd p (pre ++ [x] ++ rest) = x ∧ fdb p (pre ++ [x] ++ rest) = true := by
  have : (pre ++ [x] ++ rest).find? p = some x := by
    rw [List.append_assoc, List.find?_append, show pre.find? p = none from by rw [List.find?_eq_none]; intro y hy; rw [h y hy]; simp]
    simp [hx]
  unfold fnd fdb
  rw [this]
  exact ⟨rfl, rfl⟩

/-- What first keeps while it looks. -/
def PF (rb : Nat) (cv : Value) (p : Ru → Bool) (w : World) (pre : List Ru) (W : World) : Prop :=
  (W.heap[rb]? = some (.cells #[cv] 67 (0, 0)) ∧ W.heap[rb + 1]? = some (.cells (ruc zRu).toArray 33 (0, 0)) ∧ W.heap[rb + 1 + 1]? = some (.cells #[.bool false] 4 (0, 0))) ∧ ∀ x ∈ pre, p x = false
theorem PF.ct {rb : Nat} {cv : Value} {p : Ru → Bool} {w : World} {pre : List Ru} {A B : World} (h : PF rb cv p w pre A) (c : CTu A B) : PF rb cv p w pre B :=
  ⟨⟨c.2 _ _ h.1.1 rfl, c.2 _ _ h.1.2.1 rfl, c.2 _ _ h.1.2.2 rfl⟩, h.2⟩
/-- How it leaves when it has found. -/
def PG (rb : Nat) (p : Ru → Bool) (pre : List Ru) (W : World) : Prop :=
  ∃ pre0 x, pre = pre0 ++ [x] ∧ p x = true ∧ (∀ y ∈ pre0, p y = false) ∧ W.heap[rb + 1]? = some (.cells (ruc x).toArray 33 (0, 0)) ∧ W.heap[rb + 1 + 1]? = some (.cells #[.bool true] 4 (0, 0))
theorem PG.ct {rb : Nat} {p : Ru → Bool} {pre : List Ru} {A B : World} (h : PG rb p pre A) (c : CTu A B) : PG rb p pre B := by
  obtain ⟨pre0, x, h1, h2, h3, h4, h5⟩ := h
  exact ⟨pre0, x, h1, h2, h3, c.2 _ _ h4 rfl, c.2 _ _ h5 rfl⟩
theorem belowU_b {w : World} {n₀ : Nat} (hn : n₀ ≤ w.heap.size) (W : World) (l : Nat) (o o' : Obj) (hl : w.heap.size ≤ l) (ho : W.heap[l]? = some o) (hc : o.isCells = false) (hw : o.isWalk = false) : Below n₀ W (W.putObj l o') :=
  belowK_b (w := w) hn W l o o' hl ho hc hw

set_option maxHeartbeats 1000000 in
theorem first_endU (rb D : Nat) (x : Ru) (t : Bool) (W w : World) (hD : rb + 1 + 1 + 1 ≤ D) (hb : Below w.heap.size w W) (h1 : W.heap[rb + 1]? = some (.cells (ruc x).toArray 33 (0, 0))) (h2 : W.heap[rb + 1 + 1]? = some (.cells #[.bool t] 4 (0, 0))) (hK : W.heap[D]? = some (.deferred (some [])))
    (hrb : w.heap.size ≤ rb) (t0 t1 t2 t3 t6 t7 t8 t9 t10 t11 t12 t13 t14 : Value) :
    bodyPostM Fence.wide 5 Tryd.prog Tryd.f18 (fun e w' => e = .returned (.tuple #[.agg (ruc x).toArray, .bool t]) ∧ Later w w') Exit.ret
      { tmps := #[t0, t1, t2, t3, .pointer (some ⟨rb + 1, 0, none⟩), .pointer (some ⟨rb + 1 + 1, 0, none⟩), t6, t7, t8, t9, t10, t11, t12, t13, t14], defers := [{ target := .collected D, args := #[] }] } W := by
  refine ⟨by simp, .inl ⟨_, _, rfl, run_takeDeferred hK, ?_⟩⟩
  have z1 := (CTu.put (o' := .deferred none) hK rfl).2 _ _ h1 rfl
  have z2 := (CTu.put (o' := .deferred none) hK rfl).2 _ _ h2 rfl
  have k1 := block_cell z1
  have k2 := block_cell z2
  simp only [ruc] at k1
  refine ⟨.tuple #[.agg (ruc x).toArray, .bool t], by simp [results, Tryd.results18, go_sem, k1, k2, ruc], rfl, hb.trans (belowK_b (w := w) (Nat.le_refl _) W D _ _ (by omega) hK rfl rfl)⟩

set_option maxRecDepth 100000 in
set_option maxHeartbeats 4000000 in
theorem first_any (base cf : Nat) (lb : Array Value) (p : Option Addr) (B : Nat) (ls : List Ru) (q : Ru → Bool) (w : World) (hT : PL base w p ls) (hBl : B < w.heap.size) (hB : w.cell? ⟨B, 0, none⟩ = some (.pointer p))
    (eg : ∀ args w, (callFunc cf args).run Tryd.prog w = .ok (.enter cf args) w)
    (hcl : ∀ x ∈ ls, ∀ W, Later w W → Calls Tryd.prog cf (#[.agg (ruc x).toArray] ++ lb) W fun e W' => e = .returned (.bool (q x)) ∧ Later W W') :
    Calls Tryd.prog 18 #[.func (.func 44) #[] #[.pointer (some ⟨B, 0, none⟩)], .func (.func cf) #[] lb] w fun e w' => e = .returned (.tuple #[.agg (ruc (fnd q ls)).toArray, .bool (fdb q ls)]) ∧ Later w w' := by
  refine (callsIn_wide (n := 5)).1 ?_
  refine callsIn_of_wp_marks Tryd.func18 rfl trivial ?_ rfl
  simp only [Tryd.ntmps18, List.size_toArray, List.length_cons, List.length_nil, Nat.reduceAdd, Nat.reduceSub, Array.replicate_succ, Array.replicate_zero, List.push_toArray, List.append_toArray, List.nil_append, List.cons_append]
  have hb4 : Later w (((w.alloc (.cells #[.func (.func cf) #[] lb] 67)).alloc (.cells #[.int .i64 0, .int .u8 0, .int .u32 0, .int .i64 0, .int .u32 0, .int .u16 0, .int .u32 0, .int .u16 0] 33)).alloc (.cells #[.bool false] 4)) := (((Below.refl _ _).alloc (Nat.le_refl _) _).alloc (by simp) _).alloc (by simp <;> omega) _
  have c0 : (((w.alloc (.cells #[.func (.func cf) #[] lb] 67)).alloc (.cells #[.int .i64 0, .int .u8 0, .int .u32 0, .int .i64 0, .int .u32 0, .int .u16 0, .int .u32 0, .int .u16 0] 33)).alloc (.cells #[.bool false] 4)).heap[w.heap.size]? = some (.cells #[.func (.func cf) #[] lb] 67) := (Below.heap_alloc _ _ _ (by simp <;> omega)).trans ((Below.heap_alloc _ _ _ (by simp)).trans (heap_alloc_new w _))
  have c1 : (((w.alloc (.cells #[.func (.func cf) #[] lb] 67)).alloc (.cells #[.int .i64 0, .int .u8 0, .int .u32 0, .int .i64 0, .int .u32 0, .int .u16 0, .int .u32 0, .int .u16 0] 33)).alloc (.cells #[.bool false] 4)).heap[w.heap.size + 1]? = some (.cells #[.int .i64 0, .int .u8 0, .int .u32 0, .int .i64 0, .int .u32 0, .int .u16 0, .int .u32 0, .int .u16 0] 33) := by
    have := heap_alloc_new (w.alloc (.cells #[.func (.func cf) #[] lb] 67)) (.cells #[.int .i64 0, .int .u8 0, .int .u32 0, .int .i64 0, .int .u32 0, .int .u16 0, .int .u32 0, .int .u16 0] 33)
    rw [World.size_alloc] at this
    exact (Below.heap_alloc _ _ _ (by simp)).trans this
  have c2 : (((w.alloc (.cells #[.func (.func cf) #[] lb] 67)).alloc (.cells #[.int .i64 0, .int .u8 0, .int .u32 0, .int .i64 0, .int .u32 0, .int .u16 0, .int .u32 0, .int .u16 0] 33)).alloc (.cells #[.bool false] 4)).heap[w.heap.size + 1 + 1]? = some (.cells #[.bool false] 4) := by
    have := heap_alloc_new ((w.alloc (.cells #[.func (.func cf) #[] lb] 67)).alloc (.cells #[.int .i64 0, .int .u8 0, .int .u32 0, .int .i64 0, .int .u32 0, .int .u16 0, .int .u32 0, .int .u16 0] 33)) (.cells #[.bool false] 4)
    simpa only [World.size_alloc] using this
  have hs4 : (((w.alloc (.cells #[.func (.func cf) #[] lb] 67)).alloc (.cells #[.int .i64 0, .int .u8 0, .int .u32 0, .int .i64 0, .int .u32 0, .int .u16 0, .int .u32 0, .int .u16 0] 33)).alloc (.cells #[.bool false] 4)).heap.size = w.heap.size + 1 + 1 + 1 := by simp
  have HCL := hide hcl
  have HEG := hide eg
  have C0 := hide c0
  have C1 := hide c1
  have C2 := hide c2
  have HS4 := hide hs4
  clear hcl eg c0 c1 c2 hs4
  gi_wp2
  generalize ((w.alloc (.cells #[.func (.func cf) #[] lb] 67)).alloc (.cells #[.int .i64 0, .int .u8 0, .int .u32 0, .int .i64 0, .int .u32 0, .int .u16 0, .int .u32 0, .int .u16 0] 33)).alloc (.cells #[.bool false] 4) = w4 at *
  have hs4 : w4.heap.size = w.heap.size + 1 + 1 + 1 := HS4.out
  refine wpIn_rangeX (w := w4) rfl (by omega) (gf := 44) (lb := #[.pointer (some ⟨B, 0, none⟩)]) rfl trivial (enters_of Tryd.func44 (by kernel_rfl) rfl)
    (allU_gen 4 (by omega) B base p ls w w4 hT hb4 (by omega) ((hb4.cell hB)))
    (fun h k => h.trans k) (fun W l o o' hl ho hc hw => belowU_b (w := w4) (by omega) W l o o' hl ho hc hw) (fun hA hL => hL.mono (by omega)) (fun _ _ _ _ h _ => h) (fun _ _ _ _ _ _ _ _ _ h => h) (fun _ => rfl)
    (fun pre W => PF w.heap.size (.func (.func cf) #[] lb) q w pre W ∧ Below w.heap.size w W) (fun pre W => PG w.heap.size q pre W ∧ Below w.heap.size w W)
    (OwnFrom.and (fun s A B row hs hg hr => hs.ct (CTu.row hg (fun r e => (hr r e).2))) (ownFrom_below (Nat.le_refl _) (by omega)))
    (fun s A B h l => ⟨h.1.ct (CTu.of l), h.2.trans (l.mono h.2.size)⟩)
    (OwnFrom.and (fun s A B row hs hg hr => hs.ct (CTu.row hg (fun r e => (hr r e).2))) (ownFrom_below (Nat.le_refl _) (by omega)))
    ⟨⟨⟨C0.out, C1.out, C2.out⟩, fun x hx => by cases hx⟩, hb4⟩
    (fun x a' W => ∃ bx : Nat, w.heap.size + 1 + 1 + 1 ≤ bx ∧ W.heap[bx]? = some (.cells #[.int .i64 x.kind, .int .u8 x.proto, .int .u32 x.net, .int .i64 x.bits, .int .u32 x.tt, .int .u16 x.port, .int .u32 x.host, .int .u16 x.hp] 33 (0, 0)) ∧ a' = { tmps := #[.func (.func 44) #[] #[.pointer (some ⟨B, 0, none⟩)], .func (.func cf) #[] lb, undef, .pointer (some ⟨w.heap.size, 0, none⟩), .pointer (some ⟨w.heap.size + 1, 0, none⟩), .pointer (some ⟨w.heap.size + 1 + 1, 0, none⟩), .pointer (some ⟨bx, 0, none⟩), undef, .func (.func 44) #[] #[.pointer (some ⟨B, 0, none⟩)], .agg #[.int .i64 x.kind, .int .u8 x.proto, .int .u32 x.net, .int .i64 x.bits, .int .u32 x.tt, .int .u16 x.port, .int .u32 x.host, .int .u16 x.hp], undef, undef, undef, undef, undef], defers := [] })
    (fun x a' W l o o' hl ho hc h => by obtain ⟨bx, h1, h2, h3⟩ := h; exact ⟨bx, h1, (CTu.put ho hc).2 _ _ h2 rfl, h3⟩) ?assign ?body ?done ?stop
  case assign =>
    rintro l pre x W K hsz _ hX hK
    dsimp only [encU, ruc]
    gi_wp2
    refine hK _ _ ?_ ⟨W.heap.size, by omega, heap_alloc_new _ _, rfl⟩
    exact (Below.refl _ W).alloc (Nat.le_refl _) _
  case body =>
    rintro l pre x a' W ⟨⟨⟨h0, h1, h2⟩, hno⟩, hbW⟩ hX ⟨bx, hbx, hbo, rfl⟩
    have hxl : x ∈ ls := by obtain ⟨rest, e⟩ := hX; rw [← e]; simp
    have hc := (callsIn_wide (n := 2)).2 (HCL.out x hxl W hbW)
    have HC := hide (hc.inRound l)
    clear hc
    have Kb := block_cell hbo
    have K0 := block_cell h0
    gi_wp2
    refine ⟨trivial, ?_⟩
    rw [HEG.out]
    simp only [Oper.uponIn]
    clear Kb K0
    refine ⟨fun _ => by omega, HC.out.mono ?_⟩
    rintro e W1 ⟨rfl, l1⟩
    have hbW1 := hbW.trans (l1.mono hbW.size)
    have g0 := later_keep l1 h0
    have g1 := later_keep l1 h1
    have g2 := later_keep l1 h2
    have gb := later_keep l1 hbo
    have Kb := block_cell gb
    have hk1 : KeepsFrom w4.heap.size W W1 := ⟨l1.size, fun i o hi ho hc => later_keep l1 ho⟩
    cases hq : q x with
    | false =>
      have HQ := hide hq
      clear hq
      gi_wp2
      exact ⟨hk1, l1.mono hbW.size, ⟨⟨g0, g1, g2⟩, fun y hy => (List.mem_append.1 hy).elim (hno y) (fun h => by rw [show y = x from by simpa using h]; exact HQ.out)⟩, hbW1⟩
    | true =>
      have HQ := hide hq
      clear hq
      have K1 := block_cell g1
      have K2 := block_cell g2
      have F1 := block_frozen g1
      have F2 := block_frozen g2
      simp only [ruc] at K1
      gi_wp2
      obtain ⟨V, hV2⟩ : ∃ V, V = putRow W1 (w.heap.size + 1) 0 (ruc x) := ⟨_, rfl⟩
      have hfin : postX w4.heap.size (Below w.heap.size) (fun pre W => PF w.heap.size (.func (.func cf) #[] lb) q w pre W ∧ Below w.heap.size w W) (fun pre W => PG w.heap.size q pre W ∧ Below w.heap.size w W) (pre ++ [x]) W Exit.ret { tmps := #[], defers := [] } (V.setCell ⟨w.heap.size + 1 + 1, 0, none⟩ (.bool true)) := ?_
      · rw [hV2] at hfin
        exact hfin
      have v1 : V.heap[w.heap.size + 1]? = some (.cells (ruc x).toArray 33 (0, 0)) := by rw [hV2]; exact putRow_all (ruc x) g1 rfl
      have hbV : But (fun g => g = w.heap.size + 1 ∨ g = w.heap.size + 1 + 1) W1 V := by rw [hV2]; exact putRow_but (E := fun g => g = w.heap.size + 1 ∨ g = w.heap.size + 1 + 1) (n := w.heap.size + 1) (.inl rfl) (ruc x) 0 W1 W1 (But.refl _ _)
      have hbS := hbV.setCell (p := ⟨w.heap.size + 1 + 1, 0, none⟩) (.inr rfl) (.bool true)
      have hsz1 : w.heap.size ≤ W1.heap.size := hbW1.size
      have hbl := hbS.below hsz1 (fun k hk e => by rcases e with rfl | rfl <;> omega)
      refine ⟨⟨Nat.le_trans l1.size hbS.size, fun i o hi ho hc => ?_⟩, ⟨pre, x, rfl, HQ.out, hno, ?_, ?_⟩, hbW1.trans hbl⟩
      · have := later_keep l1 ho
        exact (hbS.block i (Array.getElem?_eq_some_iff.1 this).1 (fun e => by rcases e with rfl | rfl <;> omega)).trans this
      · exact (Below.heap_setCell V ⟨w.heap.size + 1 + 1, 0, none⟩ _ (w.heap.size + 1) (by simp)).trans v1
      · have v2 : V.heap[w.heap.size + 1 + 1]? = some (.cells #[.bool false] 4 (0, 0)) := by
          rw [hV2]
          exact ((putRow_rb (rb := w.heap.size + 1) (ruc x) W1).block (w.heap.size + 1 + 1) (Array.getElem?_eq_some_iff.1 g2).1 (by omega)).trans g2
        exact heap_set1 v2 0 _
  case done =>
    rintro D xs W hD rfl ⟨⟨⟨h0, h1, h2⟩, hno⟩, hbW⟩ hK
    have la : Later W (W.alloc (.cells #[.int .i64 0, .int .u8 0, .int .u32 0, .int .i64 0, .int .u32 0, .int .u16 0, .int .u32 0, .int .u16 0] 33)) := (Below.refl _ _).alloc (Nat.le_refl _) _
    have g1 := later_keep la h1
    have g2 := later_keep la h2
    have gD := later_keep la hK
    have K1 := block_cell g1
    have K2 := block_cell g2
    have F1 := block_frozen g1
    have F2 := block_frozen g2
    simp only [ruc, zRu] at K1
    gi_wp2
    obtain ⟨V, hV2⟩ : ∃ V, V = putRow (W.alloc (.cells #[.int .i64 0, .int .u8 0, .int .u32 0, .int .i64 0, .int .u32 0, .int .u16 0, .int .u32 0, .int .u16 0] 33)) (w.heap.size + 1) 0 (ruc zRu) := ⟨_, rfl⟩
    have v1 : V.heap[w.heap.size + 1]? = some (.cells (ruc zRu).toArray 33 (0, 0)) := by rw [hV2]; exact putRow_all (ruc zRu) g1 rfl
    have hbV : But (fun g => g = w.heap.size + 1 ∨ g = w.heap.size + 1 + 1) (W.alloc (.cells #[.int .i64 0, .int .u8 0, .int .u32 0, .int .i64 0, .int .u32 0, .int .u16 0, .int .u32 0, .int .u16 0] 33)) V := by rw [hV2]; exact putRow_but (E := fun g => g = w.heap.size + 1 ∨ g = w.heap.size + 1 + 1) (n := w.heap.size + 1) (.inl rfl) (ruc zRu) 0 _ _ (But.refl _ _)
    have v2 : V.heap[w.heap.size + 1 + 1]? = some (.cells #[.bool false] 4 (0, 0)) := by
      rw [hV2]
      exact ((putRow_rb (rb := w.heap.size + 1) (ruc zRu) _).block (w.heap.size + 1 + 1) (Array.getElem?_eq_some_iff.1 g2).1 (by omega)).trans g2
    have hbS := hbV.setCell (p := ⟨w.heap.size + 1 + 1, 0, none⟩) (.inr rfl) (.bool false)
    have hbA : Below w.heap.size w (W.alloc (.cells #[.int .i64 0, .int .u8 0, .int .u32 0, .int .i64 0, .int .u32 0, .int .u16 0, .int .u32 0, .int .u16 0] 33)) := hbW.trans (la.mono hbW.size)
    have hbl := hbA.trans (hbS.below hbA.size (fun k hk e => by rcases e with rfl | rfl <;> omega))
    have s1 : (V.setCell ⟨w.heap.size + 1 + 1, 0, none⟩ (.bool false)).heap[w.heap.size + 1]? = some (.cells (ruc zRu).toArray 33 (0, 0)) := (Below.heap_setCell V ⟨w.heap.size + 1 + 1, 0, none⟩ _ (w.heap.size + 1) (by simp)).trans v1
    have s2 : (V.setCell ⟨w.heap.size + 1 + 1, 0, none⟩ (.bool false)).heap[w.heap.size + 1 + 1]? = some (.cells #[.bool false] 4 (0, 0)) := heap_set1 v2 0 _
    have sD : (V.setCell ⟨w.heap.size + 1 + 1, 0, none⟩ (.bool false)).heap[D]? = some (.deferred (some [])) := (hbS.block D (Array.getElem?_eq_some_iff.1 gD).1 (fun e => by rcases e with rfl | rfl <;> omega)).trans gD
    obtain ⟨n1, n2⟩ := fnd_no hno
    have hfin := first_endU w.heap.size D zRu false (V.setCell ⟨w.heap.size + 1 + 1, 0, none⟩ (.bool false)) w (by omega) hbl s1 s2 sD (Nat.le_refl _)
    rw [n1, n2]
    rw [hV2] at hfin
    exact hfin _ _ _ _ _ _ _ _ _ _ _ _ _
  case stop =>
    rintro D pre W hD ⟨rest, hrest⟩ ⟨⟨pre0, x, rfl, hpx, hp0, h1, h2⟩, hbW⟩ hK
    obtain ⟨n1, n2⟩ := fnd_yes (rest := rest) hp0 hpx
    rw [hrest] at n1 n2
    gi_wp2
    rw [n1, n2]
    exact first_endU w.heap.size D x true W w (by omega) hbW h1 h2 hK (Nat.le_refl _) _ _ _ _ _ _ _ _ _ _ _ _ _
end Go.Proofs.YtomdccljoaieeaaDoor

/- Package rules: upper bits; which rules are right. -/
namespace Go.Proofs.YtomdccljoaieeaaDoor
open Go.RowKit Go.Shelf
set_option maxRecDepth 100000
set_option linter.unusedVariables false
set_option linter.unusedSimpArgs false

theorem and_upm (n k : Int) (hn : 0 ≤ n ∧ n ≤ 4294967295) (h0 : 0 ≤ k) (h1 : k ≤ 32) : bits .and .u32 n (upm k) = upp n k := by
  have hb := upm_bd k h0 h1
  rw [u32_and n (upm k) hn.1 (by omega) hb.1 (by omega)]
  have h2 : (2 : Nat) ^ (32 - k.toNat) ≤ 2 ^ 32 := Nat.pow_le_pow_right (by omega) (by omega)
  have e : (upm k).toNat = 4294967296 - 2 ^ (32 - k.toNat) := by
    unfold upm
    have e : ((2 : Int) ^ (32 - k.toNat)) = ((2 ^ (32 - k.toNat) : Nat) : Int) := by simp
    rw [e]
    omega
  rw [e, nat_and_up n.toNat (32 - k.toNat) (by omega) (by omega)]
  unfold upp
  simp
  rw [Int.max_eq_left hn.1]
theorem andNot_upm (n k : Int) (hn : 0 ≤ n ∧ n ≤ 4294967295) (h0 : 0 ≤ k) (h1 : k ≤ 32) : bits .andNot .u32 n (upm k) = n % 2 ^ (32 - k.toNat) := by
  have hb := upm_bd k h0 h1
  rw [u32_andNot n (upm k) hn.1 (by omega) hb.1 (by omega)]
  have h2 : (2 : Nat) ^ (32 - k.toNat) ≤ 2 ^ 32 := Nat.pow_le_pow_right (by omega) (by omega)
  have h3 : 0 < (2 : Nat) ^ (32 - k.toNat) := Nat.pow_pos (by omega)
  have e : 4294967295 - (upm k).toNat = 2 ^ (32 - k.toNat) - 1 := by
    unfold upm
    have e : ((2 : Int) ^ (32 - k.toNat)) = ((2 ^ (32 - k.toNat) : Nat) : Int) := by simp
    rw [e]
    omega
  rw [e, Nat.and_two_pow_sub_one_eq_mod]
  simp
  rw [Int.max_eq_left hn.1]
theorem upp_iff (n k : Int) : (n % 2 ^ (32 - k.toNat) = 0) ↔ upp n k = n := by
  unfold upp
  have := Int.emod_add_mul_ediv n (2 ^ (32 - k.toNat))
  rw [Int.mul_comm] at this
  generalize n / 2 ^ (32 - k.toNat) * 2 ^ (32 - k.toNat) = x at *
  generalize n % 2 ^ (32 - k.toNat) = y at *
  omega
theorem shl_upm (k : Int) (h0 : 0 ≤ k) (h1 : k ≤ 32) : (4294967295 : Int) * 2 ^ (32 - k).toNat % 4294967296 = upm k := by
  obtain ⟨j, rfl⟩ := Int.eq_ofNat_of_zero_le h0
  have hj : j ≤ 32 := by omega
  have e : ((32 : Int) - (j : Int)).toNat = 32 - j := by omega
  rw [e]
  unfold upm
  simp only [Int.toNat_natCast]
  have h2 : (2 : Nat) ^ (32 - j) ≤ 2 ^ 32 := Nat.pow_le_pow_right (by omega) (by omega)
  have h3 : 0 < (2 : Nat) ^ (32 - j) := Nat.pow_pos (by omega)
  have e : ((2 : Int) ^ (32 - j)) = ((2 ^ (32 - j) : Nat) : Int) := by simp
  rw [e]
  omega

set_option maxHeartbeats 400000 in
theorem upper_any (k : Int) (w : World) (h0 : 0 ≤ k) (h1 : k ≤ 32) : Calls Tryd.prog 21 #[.int .i64 k] w fun e w' => e = .returned (.int .u32 (upm k)) ∧ w' = w := by
  have h2 : 0 ≤ 32 - k := by omega
  have h3 : 32 - k ≤ 32 := by omega
  have HU := hide (shl_upm k h0 h1)
  go_enter Tryd.func21, Tryd.ntmps21
  go_wp2_with fail
  go_ret
  exact ⟨ret_int HU.out, rfl⟩

def rtM (x : Ru) : Bool := decide (0 ≤ x.bits) && (decide (x.bits ≤ 32) && (decide (upp x.net x.bits = x.net) && (decide (x.tt ≠ 0) && (decide (x.proto = 0) && (decide (x.port = 0) && (decide (x.host = 0) && decide (x.hp = 0)))))))
def rtD (x : Ru) : Bool := (decide (x.proto = 6) || decide (x.proto = 17)) && (decide (x.tt ≠ 0) && (decide (x.port ≠ 0) && (decide (x.host ≠ 0) && (decide (x.hp ≠ 0) && (decide (x.net = 0) && decide (x.bits = 0))))))
/-- Is the rule right? -/
def rtB (x : Ru) : Bool := if x.kind = 1 then rtM x else if x.kind = 2 then rtD x else false

set_option maxHeartbeats 2000000 in
theorem rightMasq_any (x : Ru) (w : World) (hx : wfR x) (hk : x.kind = 1) :
    Calls Tryd.prog 41 #[.agg (ruc x).toArray] w fun e w' => e = .returned (.bool (rtM x)) ∧ Later w w' := by
  obtain ⟨kind, proto, net, bts, tq, port, host, hp⟩ := x
  obtain ⟨_, h1, h2, h3, h4, h5, h6, h7⟩ := hx
  simp only at hk h1 h2 h3 h4 h5 h6 h7
  unfold ruc
  simp only
  subst hk
  have lb0 : Later w (w.alloc (.cells #[.int .i64 1, .int .u8 proto, .int .u32 net, .int .i64 bts, .int .u32 tq, .int .u16 port, .int .u32 host, .int .u16 hp] 33)) := (Below.refl _ _).alloc (Nat.le_refl _) _
  have c0 := block_cell (heap_alloc_new w (.cells #[.int .i64 1, .int .u8 proto, .int .u32 net, .int .i64 bts, .int .u32 tq, .int .u16 port, .int .u32 host, .int .u16 hp] 33))
  go_enter Tryd.func41, Tryd.ntmps41
  go_wp2_with fail
  generalize w.alloc (.cells #[.int .i64 1, .int .u8 proto, .int .u32 net, .int .i64 bts, .int .u32 tq, .int .u16 port, .int .u32 host, .int .u16 hp] 33) = w0 at *
  by_cases b0 : bts < 0
  · go_quiet (fail)
    go_wp2_with fail
    go_ret
    exact ⟨by simp [rtM]; omega, lb0.trans (below_draw (Later.refl _) _)⟩
  · by_cases b1 : 32 < bts
    · go_quiet (fail)
      go_wp2_with fail
      go_ret
      exact ⟨by simp [rtM]; omega, lb0.trans (below_draw (Later.refl _) _)⟩
    · have hU : ∀ W, Calls Tryd.prog 21 #[.int .i64 bts] W fun e w' => e = .returned (.int .u32 (upm bts)) ∧ w' = W := fun W => upper_any bts W (by omega) (by omega)
      have hz := andNot_upm net bts h2 (by omega) (by omega)
      have hi := upp_iff net bts
      by_cases hz0 : bits .andNot .u32 net (upm bts) = 0
      · have hq : upp net bts = net := by rw [← hi, ← hz]; exact hz0
        have HQ := hide hq
        have B0 := hide b0
        have B1 := hide b1
        clear hi hz hq
        by_cases ht : tq = 0
        · go_quiet (first | (go_at_call 21; exact Calls.quiet_of_same (hU _)))
          go_wp2_with fail
          go_ret
          exact ⟨by simp [rtM, ht], lb0.trans (below_draw (Later.refl _) _)⟩
        · go_quiet (first | (go_at_call 21; exact Calls.quiet_of_same (hU _)))
          go_wp2_with fail
          all_goals go_ret
          all_goals refine ⟨?_, lb0.trans (below_draw (Later.refl _) _)⟩
          all_goals have hq := HQ.out
          all_goals simp_all [rtM]
          all_goals omega
      · have hq : ¬ upp net bts = net := by rw [← hi, ← hz]; exact hz0
        have HQ := hide hq
        have B0 := hide b0
        have B1 := hide b1
        clear hi hz hq
        go_quiet (first | (go_at_call 21; exact Calls.quiet_of_same (hU _)))
        go_wp2_with fail
        go_ret
        exact ⟨by simp [rtM, HQ.out], lb0.trans (below_draw (Later.refl _) _)⟩
end Go.Proofs.YtomdccljoaieeaaDoor

/- Package rules: Right, and the document's. -/
namespace Go.Proofs.YtomdccljoaieeaaDoor
open Go.RowKit Go.Shelf
set_option maxRecDepth 100000
set_option linter.unusedVariables false
set_option linter.unusedSimpArgs false

set_option maxHeartbeats 2000000 in
theorem rightDnat_any (x : Ru) (w : World) :
    Calls Tryd.prog 42 #[.agg (ruc x).toArray] w fun e w' => e = .returned (.bool (rtD x)) ∧ Later w w' := by
  obtain ⟨kind, proto, net, bts, tq, port, host, hp⟩ := x
  unfold ruc
  simp only
  have lb0 : Later w (w.alloc (.cells #[.int .i64 kind, .int .u8 proto, .int .u32 net, .int .i64 bts, .int .u32 tq, .int .u16 port, .int .u32 host, .int .u16 hp] 33)) := (Below.refl _ _).alloc (Nat.le_refl _) _
  have c0 := block_cell (heap_alloc_new w (.cells #[.int .i64 kind, .int .u8 proto, .int .u32 net, .int .i64 bts, .int .u32 tq, .int .u16 port, .int .u32 host, .int .u16 hp] 33))
  go_enter Tryd.func42, Tryd.ntmps42
  by_cases p1 : proto = 6
  · by_cases h4 : tq = 0
    · go_wp2_with fail
      go_ret
      exact ⟨by simp [rtD, *], (Below.refl _ _).alloc (Nat.le_refl _) _⟩
    · by_cases h5 : port = 0
      · go_wp2_with fail
        go_ret
        exact ⟨by simp [rtD, *], (Below.refl _ _).alloc (Nat.le_refl _) _⟩
      · by_cases h6 : host = 0
        · go_wp2_with fail
          go_ret
          exact ⟨by simp [rtD, *], (Below.refl _ _).alloc (Nat.le_refl _) _⟩
        · by_cases h7 : hp = 0
          · go_wp2_with fail
            go_ret
            exact ⟨by simp [rtD, *], (Below.refl _ _).alloc (Nat.le_refl _) _⟩
          · by_cases h8 : net = 0
            · by_cases h9 : bts = 0
              · go_wp2_with fail
                go_ret
                exact ⟨by simp [rtD, *], (Below.refl _ _).alloc (Nat.le_refl _) _⟩
              · go_wp2_with fail
                go_ret
                exact ⟨by simp [rtD, *], (Below.refl _ _).alloc (Nat.le_refl _) _⟩
            · go_wp2_with fail
              go_ret
              exact ⟨by simp [rtD, *], (Below.refl _ _).alloc (Nat.le_refl _) _⟩
  · by_cases p2 : proto = 17
    · by_cases h4 : tq = 0
      · go_wp2_with fail
        go_ret
        exact ⟨by simp [rtD, *], (Below.refl _ _).alloc (Nat.le_refl _) _⟩
      · by_cases h5 : port = 0
        · go_wp2_with fail
          go_ret
          exact ⟨by simp [rtD, *], (Below.refl _ _).alloc (Nat.le_refl _) _⟩
        · by_cases h6 : host = 0
          · go_wp2_with fail
            go_ret
            exact ⟨by simp [rtD, *], (Below.refl _ _).alloc (Nat.le_refl _) _⟩
          · by_cases h7 : hp = 0
            · go_wp2_with fail
              go_ret
              exact ⟨by simp [rtD, *], (Below.refl _ _).alloc (Nat.le_refl _) _⟩
            · by_cases h8 : net = 0
              · by_cases h9 : bts = 0
                · go_wp2_with fail
                  go_ret
                  exact ⟨by simp [rtD, *], (Below.refl _ _).alloc (Nat.le_refl _) _⟩
                · go_wp2_with fail
                  go_ret
                  exact ⟨by simp [rtD, *], (Below.refl _ _).alloc (Nat.le_refl _) _⟩
              · go_wp2_with fail
                go_ret
                exact ⟨by simp [rtD, *], (Below.refl _ _).alloc (Nat.le_refl _) _⟩
    · go_wp2_with fail
      go_ret
      exact ⟨by simp [rtD, *], (Below.refl _ _).alloc (Nat.le_refl _) _⟩

set_option maxHeartbeats 2000000 in
theorem right9_any (x : Ru) (w : World) (hx : wfR x) :
    Calls Tryd.prog 16 #[.agg (ruc x).toArray] w fun e w' => e = .returned (.bool (rtB x)) ∧ Later w w' := by
  obtain ⟨kind, proto, net, bts, tq, port, host, hp⟩ := x
  have hM : ∀ W, kind = 1 → Calls Tryd.prog 41 #[.agg #[.int .i64 kind, .int .u8 proto, .int .u32 net, .int .i64 bts, .int .u32 tq, .int .u16 port, .int .u32 host, .int .u16 hp]] W fun e w' => e = .returned (.bool (rtM ⟨kind, proto, net, bts, tq, port, host, hp⟩)) ∧ Later W w' := fun W h => rightMasq_any ⟨kind, proto, net, bts, tq, port, host, hp⟩ W hx h
  have hD : ∀ W, Calls Tryd.prog 42 #[.agg #[.int .i64 kind, .int .u8 proto, .int .u32 net, .int .i64 bts, .int .u32 tq, .int .u16 port, .int .u32 host, .int .u16 hp]] W fun e w' => e = .returned (.bool (rtD ⟨kind, proto, net, bts, tq, port, host, hp⟩)) ∧ Later W w' := fun W => rightDnat_any ⟨kind, proto, net, bts, tq, port, host, hp⟩ W
  have HM := hide hM
  have HD := hide hD
  clear hM hD
  unfold ruc
  simp only
  have hr1 : kind = 1 → rtB ⟨kind, proto, net, bts, tq, port, host, hp⟩ = rtM ⟨kind, proto, net, bts, tq, port, host, hp⟩ := fun h => by simp [rtB, h]
  have hr2 : kind = 2 → rtB ⟨kind, proto, net, bts, tq, port, host, hp⟩ = rtD ⟨kind, proto, net, bts, tq, port, host, hp⟩ := fun h => by simp [rtB, h]
  have hr3 : kind ≠ 1 → kind ≠ 2 → rtB ⟨kind, proto, net, bts, tq, port, host, hp⟩ = false := fun h h2 => by simp [rtB, h, h2]
  generalize rtB ⟨kind, proto, net, bts, tq, port, host, hp⟩ = tb at *
  generalize rtM ⟨kind, proto, net, bts, tq, port, host, hp⟩ = tm at *
  generalize rtD ⟨kind, proto, net, bts, tq, port, host, hp⟩ = td at *
  have HR1 := hide hr1
  have HR2 := hide hr2
  have HR3 := hide hr3
  clear hr1 hr2 hr3 hx
  have lb0 : Later w (w.alloc (.cells #[.int .i64 kind, .int .u8 proto, .int .u32 net, .int .i64 bts, .int .u32 tq, .int .u16 port, .int .u32 host, .int .u16 hp] 33)) := (Below.refl _ _).alloc (Nat.le_refl _) _
  have c0 := block_cell (heap_alloc_new w (.cells #[.int .i64 kind, .int .u8 proto, .int .u32 net, .int .i64 bts, .int .u32 tq, .int .u16 port, .int .u32 host, .int .u16 hp] 33))
  go_enter Tryd.func16, Tryd.ntmps16
  by_cases k1 : kind = 1
  · subst k1
    go_wp2_with fail
    generalize w.alloc _ = w0 at *
    refine (HM.out w0 trivial).mono ?_
    rintro e w1 ⟨rfl, l1⟩
    go_wp2_with fail
    go_ret
    exact ⟨by rw [HR1.out trivial]; rfl, lb0.trans l1⟩
  · by_cases k2 : kind = 2
    · subst k2
      go_wp2_with fail
      generalize w.alloc _ = w0 at *
      refine (HD.out w0).mono ?_
      rintro e w1 ⟨rfl, l1⟩
      go_wp2_with fail
      go_ret
      exact ⟨by rw [HR2.out trivial]; rfl, lb0.trans l1⟩
    · go_wp2_with fail
      go_ret
      exact ⟨by rw [HR3.out k1 k2]; rfl, lb0⟩

theorem nat_clear (n i : Nat) (hn : n < 4294967296) (hi : i < 32) : (n / 2 ^ i * 2 ^ i) &&& (4294967295 - 2 ^ i) = n / 2 ^ (i + 1) * 2 ^ (i + 1) := by
  have e0 : n / 2 ^ i * 2 ^ i = (n >>> i) <<< i := by rw [Nat.shiftLeft_eq, Nat.shiftRight_eq_div_pow]
  have e1 : n / 2 ^ (i + 1) * 2 ^ (i + 1) = (n >>> (i + 1)) <<< (i + 1) := by rw [Nat.shiftLeft_eq, Nat.shiftRight_eq_div_pow]
  rw [e0, e1]
  apply Nat.eq_of_testBit_eq
  intro j
  have e2 : (4294967295 - 2 ^ i).testBit j = (decide (j < 32) && !(decide (i = j))) := by
    have h32 : 2 ^ i < 2 ^ 32 := Nat.pow_lt_pow_right (by omega) hi
    have := Nat.testBit_two_pow_sub_succ (n := 32) (x := 2 ^ i) h32 j
    rw [show 2 ^ 32 - (2 ^ i + 1) = 4294967295 - 2 ^ i from by omega] at this
    rw [this, Nat.testBit_two_pow]
  rw [Nat.testBit_and, e2]
  simp only [Nat.testBit_shiftLeft, Nat.testBit_shiftRight]
  by_cases h1 : i = j
  · subst h1; simp; intro h; omega
  · by_cases h2 : i ≤ j
    · have h3 : i + 1 ≤ j := by omega
      have a1 : i + (j - i) = j := by omega
      have a2 : i + 1 + (j - (i + 1)) = j := by omega
      simp [h1, h2, h3, a1, a2]
      intro hb
      by_cases h4 : j < 32
      · exact h4
      · have : n.testBit j = false := Nat.testBit_lt_two_pow (Nat.lt_of_lt_of_le hn (by rw [show 4294967296 = 2 ^ 32 from rfl]; exact Nat.pow_le_pow_right (by omega) (by omega)))
        rw [this] at hb; cases hb
    · have h3 : ¬ i + 1 ≤ j := by omega
      simp [h2, h3]
theorem up_step (n : Int) (i : Nat) (hn : 0 ≤ n ∧ n ≤ 4294967295) (hi : i < 32) : bits .andNot .u32 (n / 2 ^ i * 2 ^ i) (2 ^ i) = n / 2 ^ (i + 1) * 2 ^ (i + 1) := by
  obtain ⟨m, rfl⟩ := Int.eq_ofNat_of_zero_le hn.1
  have h1 : m / 2 ^ i * 2 ^ i ≤ m := Nat.div_mul_le_self m _
  have h2 : 2 ^ i < 2 ^ 32 := Nat.pow_lt_pow_right (by omega) hi
  have e1 : ((m : Int) / 2 ^ i * 2 ^ i) = ((m / 2 ^ i * 2 ^ i : Nat) : Int) := by simp
  have e2 : ((2 : Int) ^ i) = ((2 ^ i : Nat) : Int) := by simp
  rw [e1, e2, u32_andNot_nat _ _ (by omega) (by omega), nat_clear m i (by omega) hi]
  simp

theorem pow_low (p : Nat) (h : p < 32) : (2 : Int) ^ p % 4294967296 = 2 ^ p := by
  have h2 : 2 ^ p < 4294967296 := Nat.pow_lt_pow_right (a := 2) (by omega) h
  have e : ((2 : Int) ^ p) = ((2 ^ p : Nat) : Int) := by simp
  rw [e]
  exact Int.emod_eq_of_lt (Int.natCast_nonneg _) (Int.ofNat_lt.2 h2)

end Go.Proofs.YtomdccljoaieeaaDoor

/- Package rules: Masq, Dnat, has. -/
namespace Go.Proofs.YtomdccljoaieeaaDoor
open Go.RowKit Go.Shelf
set_option maxRecDepth 100000
set_option linter.unusedVariables false
set_option linter.unusedSimpArgs false

/-- What every list of rules is. -/
def okL (l : List Ru) : Prop := l.length ≤ 32 ∧ ∀ x ∈ l, wfR x ∧ rtB x = true
theorem rtB_bits {x : Ru} (h : rtB x = true) (hk : x.kind = 1) : 0 ≤ x.bits ∧ x.bits ≤ 32 := by
  unfold rtB at h
  rw [if_pos hk] at h
  unfold rtM at h
  simp at h
  omega
def mqB (src : Int) (x : Ru) : Bool := decide (x.kind = 1) && decide (upp src x.bits = x.net)
def dnB (proto dst port : Int) (x : Ru) : Bool := decide (x.kind = 2) && (decide (x.proto = proto) && (decide (x.tt = dst) && decide (x.port = port)))

set_option maxHeartbeats 2000000 in
theorem masq1_any (x : Ru) (sb : Nat) (src : Int) (w : World) (hb : x.kind = 1 → 0 ≤ x.bits ∧ x.bits ≤ 32) (hs : 0 ≤ src ∧ src ≤ 4294967295) (hc : w.cell? ⟨sb, 0, none⟩ = some (.int .u32 src)) :
    Calls Tryd.prog 20 #[.agg (ruc x).toArray, .pointer (some ⟨sb, 0, none⟩)] w fun e w' => e = .returned (.bool (mqB src x)) ∧ Later w w' := by
  obtain ⟨kind, proto, net, bts, tq, port, host, hp⟩ := x
  unfold ruc mqB
  simp only at *
  have lb0 : Later w (w.alloc (.cells #[.int .i64 kind, .int .u8 proto, .int .u32 net, .int .i64 bts, .int .u32 tq, .int .u16 port, .int .u32 host, .int .u16 hp] 33)) := (Below.refl _ _).alloc (Nat.le_refl _) _
  have c0 := block_cell (heap_alloc_new w (.cells #[.int .i64 kind, .int .u8 proto, .int .u32 net, .int .i64 bts, .int .u32 tq, .int .u16 port, .int .u32 host, .int .u16 hp] 33))
  have cs := lb0.cell hc
  clear hc
  go_enter Tryd.func20, Tryd.ntmps20
  go_wp2_with fail
  generalize w.alloc (.cells #[.int .i64 kind, .int .u8 proto, .int .u32 net, .int .i64 bts, .int .u32 tq, .int .u16 port, .int .u32 host, .int .u16 hp] 33) = w0 at *
  by_cases k1 : kind = 1
  · obtain ⟨h0, h1⟩ := hb k1
    have hU : ∀ W, Calls Tryd.prog 21 #[.int .i64 bts] W fun e w' => e = .returned (.int .u32 (upm bts)) ∧ w' = W := fun W => upper_any bts W h0 h1
    have hz := and_upm src bts hs h0 h1
    have HZ := hide hz
    clear hz
    go_quiet (first | (go_at_call 21; exact Calls.quiet_of_same (hU _)))
    go_wp2_with fail
    go_ret
    refine ⟨?_, lb0.trans (below_draw (Later.refl _) _)⟩
    show Ending.returned (Value.bool _) = _
    rw [HZ.out]
    simp [k1]
    rfl
  · go_quiet (fail)
    go_wp2_with fail
    go_ret
    exact ⟨by simp [k1], lb0.trans (below_draw (Later.refl _) _)⟩

theorem wpList_valDU {P : Program} {ops : Array Oper} {rest : List Oper} {o : Oper} {a : Act} {Q : Exit → Act → World → Prop} {w : World} (k : Nat) (hd : o.dst = some k) (hg : o.guard = none) (v : Value) (h : (execOp a.eval o).run P w = .ok (.value v) w)
    (hk : wpList P ops Q rest (a.put o.dst v) w) : wpList P ops Q (o :: rest) a w := wpList_plain hg fun K hK => by unfold Oper.wp; rw [h]; exact hK _ _ hk
theorem ru_eql (x y : Ru) (w : World) : (binOp .eql 33 (.agg (ruc x).toArray) (.agg (ruc y).toArray)).run Tryd.prog w = .ok (.bool (decide (x = y))) w := by
  obtain ⟨k1, p1, n1, b1, t1, q1, h1, g1⟩ := x
  obtain ⟨k2, p2, n2, b2, t2, q2, h2, g2⟩ := y
  unfold ruc
  simp only
  go_simp
  by_cases e1 : k1 = k2 <;> by_cases e2 : p1 = p2 <;> by_cases e3 : n1 = n2 <;> by_cases e4 : b1 = b2 <;> by_cases e5 : t1 = t2 <;> by_cases e6 : q1 = q2 <;> by_cases e7 : h1 = h2 <;> by_cases e8 : g1 = g2 <;> simp [e1, e2, e3, e4, e5, e6, e7, e8, Ru.mk.injEq]

set_option maxHeartbeats 2000000 in
theorem has1_any (y x : Ru) (xb : Nat) (w : World) (hc : w.heap[xb]? = some (.cells (ruc x).toArray 33 (0, 0))) :
    Calls Tryd.prog 43 #[.agg (ruc y).toArray, .pointer (some ⟨xb, 0, none⟩)] w fun e w' => e = .returned (.bool (decide (y = x))) ∧ Later w w' := by
  obtain ⟨kind, proto, net, bts, tq, port, host, hp⟩ := y
  obtain ⟨k2, p2, n2, b2, t2, q2, h2, g2⟩ := x
  unfold ruc at *
  simp only at *
  have lb0 : Later w (w.alloc (.cells #[.int .i64 kind, .int .u8 proto, .int .u32 net, .int .i64 bts, .int .u32 tq, .int .u16 port, .int .u32 host, .int .u16 hp] 33)) := (Below.refl _ _).alloc (Nat.le_refl _) _
  have c0 := block_cell (heap_alloc_new w (.cells #[.int .i64 kind, .int .u8 proto, .int .u32 net, .int .i64 bts, .int .u32 tq, .int .u16 port, .int .u32 host, .int .u16 hp] 33))
  have cx := block_cell (later_keep lb0 hc)
  clear hc
  go_enter Tryd.func43, Tryd.ntmps43
  go_upto_region 1 with fail
  generalize w.alloc (.cells #[.int .i64 kind, .int .u8 proto, .int .u32 net, .int .i64 bts, .int .u32 tq, .int .u16 port, .int .u32 host, .int .u16 hp] 33) = w0 at *
  go_wp2_with fail
  all_goals go_ret
  all_goals exact ⟨by simp_all, lb0⟩
end Go.Proofs.YtomdccljoaieeaaDoor

/- Package rules: Masq, Dnat, has, New. -/
namespace Go.Proofs.YtomdccljoaieeaaDoor
open Go.RowKit Go.Shelf
set_option maxRecDepth 100000
set_option linter.unusedVariables false
set_option linter.unusedSimpArgs false

theorem PL.blk {base : Nat} {W : World} {p : Option Addr} {l : List Ru} (h : PL base W p l) : True := trivial

set_option maxHeartbeats 2000000 in
theorem masq_any (base : Nat) (p : Option Addr) (ls : List Ru) (src : Int) (w : World) (hT : PL base w p ls) (hok : okL ls) (hs : 0 ≤ src ∧ src ≤ 4294967295) :
    Calls Tryd.prog 7 #[.pointer p, .int .u32 src] w fun e w' => e = .returned (.tuple #[.agg (ruc (fnd (mqB src) ls)).toArray, .bool (fdb (mqB src) ls)]) ∧ Later w w' := by
  have lb0 : Later w ((w.alloc (.cells #[.int .u32 src] 23)).alloc (.cells #[.int .i64 0, .int .u8 0, .int .u32 0, .int .i64 0, .int .u32 0, .int .u16 0, .int .u32 0, .int .u16 0] 33)) := ((Below.refl _ _).alloc (Nat.le_refl _) _).alloc (by simp) _
  have c0 : ((w.alloc (.cells #[.int .u32 src] 23)).alloc (.cells #[.int .i64 0, .int .u8 0, .int .u32 0, .int .i64 0, .int .u32 0, .int .u16 0, .int .u32 0, .int .u16 0] 33)).heap[w.heap.size]? = some (.cells #[.int .u32 src] 23) := (Below.heap_alloc _ _ _ (by simp)).trans (heap_alloc_new w _)
  have c1 : ((w.alloc (.cells #[.int .u32 src] 23)).alloc (.cells #[.int .i64 0, .int .u8 0, .int .u32 0, .int .i64 0, .int .u32 0, .int .u16 0, .int .u32 0, .int .u16 0] 33)).heap[w.heap.size + 1]? = some (.cells #[.int .i64 0, .int .u8 0, .int .u32 0, .int .i64 0, .int .u32 0, .int .u16 0, .int .u32 0, .int .u16 0] 33) := by
    have := heap_alloc_new (w.alloc (.cells #[.int .u32 src] 23)) (.cells #[.int .i64 0, .int .u8 0, .int .u32 0, .int .i64 0, .int .u32 0, .int .u16 0, .int .u32 0, .int .u16 0] 33)
    rwa [World.size_alloc] at this
  go_enter Tryd.func7, Tryd.ntmps7
  go_wp2_with fail
  generalize (w.alloc (.cells #[.int .u32 src] 23)).alloc (.cells #[.int .i64 0, .int .u8 0, .int .u32 0, .int .i64 0, .int .u32 0, .int .u16 0, .int .u32 0, .int .u16 0] 33) = w0 at *
  refine ((callsIn_wide (n := 5)).1 (allU_in 5 p w0)).mono ?_
  rintro e w1 ⟨rfl, hw1⟩
  have l1 : Later w0 w1 := by rw [hw1]; exact (Below.refl _ _).alloc (Nat.le_refl _) _
  have b1 : w1.heap[w0.heap.size]? = some (.cells #[.pointer p] 25) := by rw [hw1]; exact heap_alloc_new w0 _
  generalize w0.heap.size = B at *
  clear hw1
  have hT1 := hT.later (lb0.trans l1)
  have d0 := later_keep l1 c0
  have d1 := later_keep l1 c1
  go_wp2_with fail
  refine (first_any base 20 #[.pointer (some ⟨w.heap.size, 0, none⟩)] p B ls (mqB src) w1 hT1 (Array.getElem?_eq_some_iff.1 b1).1 ((block_cell b1 0).trans rfl) (enters_of Tryd.func20 (by kernel_rfl) rfl) (fun x hx W hW => masq1_any x w.heap.size src W (fun hk => rtB_bits (hok.2 x hx).2 hk) hs ((block_cell (later_keep hW d0) 0).trans rfl))).mono ?_
  rintro e w2 ⟨rfl, l2⟩
  have e1 := later_keep l2 d1
  have K1 := block_cell e1
  have F1 := block_frozen e1
  generalize hr : fnd (mqB src) ls = r at *
  generalize ht : fdb (mqB src) ls = t at *
  have HR := hide hr
  have HT := hide ht
  clear hr ht
  unfold ruc
  go_wp2_with fail
  change bodyPost _ _ _ _ _ (putRow w2 (w.heap.size + 1) 0 (ruc r))
  have v1 := putRow_all (ruc r) e1 rfl
  have hbl : Below w.heap.size w2 (putRow w2 (w.heap.size + 1) 0 (ruc r)) := (putRow_rb (rb := w.heap.size + 1) (ruc r) w2).below ((lb0.trans l1).trans l2).size (fun k hk e => by omega)
  generalize putRow w2 (w.heap.size + 1) 0 (ruc r) = V at *
  have k1 := block_cell v1
  simp only [ruc] at k1
  refine bodyPost_ret (v := .tuple #[.agg (ruc r).toArray, .bool t]) (by simp [results, Tryd.results7, go_sem, k1, ruc]) rfl ⟨by rw [HR.out, HT.out], Below.trans ((lb0.trans l1).trans l2) hbl⟩

def hasB (x : Ru) (l : List Ru) : Bool := fdb (fun y => decide (y = x)) l
theorem hasB_iff {x : Ru} {l : List Ru} : hasB x l = true ↔ x ∈ l := by
  unfold hasB fdb
  rw [List.find?_isSome]
  constructor
  · rintro ⟨y, h1, h2⟩; simp at h2; subst h2; exact h1
  · intro h; exact ⟨x, h, by simp⟩

set_option maxHeartbeats 2000000 in
theorem has_anyU (base : Nat) (p : Option Addr) (ls : List Ru) (x : Ru) (w : World) (hT : PL base w p ls) :
    Calls Tryd.prog 17 #[.pointer p, .agg (ruc x).toArray] w fun e w' => e = .returned (.bool (hasB x ls)) ∧ Later w w' := by
  have lb0 : Later w (w.alloc (.cells (ruc x).toArray 33)) := (Below.refl _ _).alloc (Nat.le_refl _) _
  have c0 := heap_alloc_new w (.cells (ruc x).toArray 33)
  go_enter Tryd.func17, Tryd.ntmps17
  unfold ruc at *
  go_wp2_with fail
  generalize w.alloc _ = w0 at *
  refine ((callsIn_wide (n := 5)).1 (allU_in 5 p w0)).mono ?_
  rintro e w1 ⟨rfl, hw1⟩
  have l1 : Later w0 w1 := by rw [hw1]; exact (Below.refl _ _).alloc (Nat.le_refl _) _
  have b1 : w1.heap[w0.heap.size]? = some (.cells #[.pointer p] 25) := by rw [hw1]; exact heap_alloc_new w0 _
  generalize w0.heap.size = B at *
  clear hw1
  have hT1 := hT.later (lb0.trans l1)
  have d0 := later_keep l1 c0
  go_wp2_with fail
  refine (first_any base 43 #[.pointer (some ⟨w.heap.size, 0, none⟩)] p B ls (fun y => decide (y = x)) w1 hT1 (Array.getElem?_eq_some_iff.1 b1).1 ((block_cell b1 0).trans rfl) (enters_of Tryd.func43 (by kernel_rfl) rfl) (fun y hy W hW => has1_any y x w.heap.size W (later_keep hW d0))).mono ?_
  rintro e w2 ⟨rfl, l2⟩
  generalize fnd (fun y => decide (y = x)) ls = r at *
  generalize ht : fdb (fun y => decide (y = x)) ls = t at *
  have HT := hide ht
  clear ht
  unfold ruc
  go_wp2_with fail
  go_ret
  refine ⟨?_, (lb0.trans (l1.trans l2)).trans ((Below.refl _ _).alloc (Nat.le_refl _) _)⟩
  unfold hasB
  rw [HT.out]
  rfl
end Go.Proofs.YtomdccljoaieeaaDoor

/- Package rules: New, Add. -/
namespace Go.Proofs.YtomdccljoaieeaaDoor
open Go.RowKit Go.Shelf
set_option maxRecDepth 100000
set_option linter.unusedVariables false
set_option linter.unusedSimpArgs false

theorem info_rule : (Tryd.prog.info? 33).map (fun i => (i.zero, i.size, i.bytes)) = some (some (.agg #[.int .i64 0, .int .u8 0, .int .u32 0, .int .i64 0, .int .u32 0, .int .u16 0, .int .u32 0, .int .u16 0]), 8, 40) := by kernel_rfl

theorem info_partsU {P : Program} {t : TypeId} {z : Value} {a b : Nat} (h : (P.info? t).map (fun i => (i.zero, i.size, i.bytes)) = some (some z, a, b)) : ∃ i, P.info? t = some i ∧ i.zero = some z ∧ i.size = a ∧ i.bytes = b := by
  cases hi : P.info? t with
  | none => rw [hi] at h; cases h
  | some i => rw [hi] at h; simp at h; exact ⟨i, rfl, h.1, h.2.1, h.2.2⟩

/-- What adding tells, and what the list is then. -/
def adE (l : List Ru) (x : Ru) : Int := if rtB x = false then 4 else if hasB x l = true then 10 else if 32 ≤ l.length then 9 else 0
def adL (l : List Ru) (x : Ru) : List Ru := if adE l x = 0 then l ++ [x] else l
theorem adL_no {l : List Ru} {x : Ru} (h : adE l x ≠ 0) : adL l x = l := by unfold adL; rw [if_neg h]
theorem adL_yes {l : List Ru} {x : Ru} (h : adE l x = 0) : adL l x = l ++ [x] := by unfold adL; rw [if_pos h]
theorem okL_add {l : List Ru} {x : Ru} (h : okL l) (hx : wfR x) : okL (adL l x) := by
  by_cases h0 : adE l x = 0
  · rw [adL_yes h0]
    unfold adE at h0
    split at h0
    · omega
    · rename_i h1
      split at h0
      · omega
      · split at h0
        · omega
        · refine ⟨by rw [List.length_append, List.length_singleton]; omega, fun y hy => ?_⟩
          rcases List.mem_append.1 hy with hy | hy
          · exact h.2 y hy
          · obtain rfl : y = x := by simpa using hy
            exact ⟨hx, by simpa using h1⟩
  · rw [adL_no h0]; exact h
theorem new_rowU (W : World) (x : Ru) : ∀ j u, (ruc x)[j]? = some u → (W.alloc (.cells (ruc x).toArray 33)).cell? ((⟨W.heap.size, 0, none⟩ : Addr).add j) = some u := fun j u hj => by
  rw [show (⟨W.heap.size, 0, none⟩ : Addr).add j = ⟨W.heap.size, j, none⟩ from by unfold Addr.add; split <;> simp_all, block_cell (heap_alloc_new W _) j]
  simpa using hj
/-- How a change of rules leaves them. -/
def RLq (t : TypeId) (base : Nat) (w w' : World) (b : Nat) (v : Value) (l : List Ru) : Prop := ∃ v', RL t base w' b v' l ∧ But (fun g => g = b ∨ v.ownBlock = some g) w w' ∧ (v'.ownBlock = v.ownBlock ∨ ∀ g, v'.ownBlock = some g → w.heap.size ≤ g)
theorem RLq.same {t : TypeId} {base : Nat} {w w' : World} {b : Nat} {v : Value} {l : List Ru} (h : RL t base w b v l) (k : Later w w') : RLq t base w w' b v l := ⟨v, h.later k, But.of k, .inl rfl⟩

theorem new9_any (w : World) : Calls Tryd.prog 4 #[] w fun e w' => e = .returned (.pointer (some ⟨w.heap.size, 0, none⟩)) ∧ Later w w' ∧ RL 56 w.heap.size w' w.heap.size (.slice none 0 0) [] := by
  have la : Later w (w.alloc (.cells #[.slice none 0 0] 56)) := (Below.refl _ _).alloc (Nat.le_refl _) _
  have hn := heap_alloc_new w (.cells #[.slice none 0 0] 56)
  go_enter Tryd.func4, Tryd.ntmps4
  go_wp2_with fail
  go_ret
  exact ⟨rfl, la, Nat.le_refl _, hn, rfl, .inl ⟨rfl, rfl⟩⟩

set_option maxHeartbeats 8000000 in
theorem add9_any (base b : Nat) (v : Value) (l : List Ru) (x : Ru) (w : World) (hT : RL 56 base w b v l) (hx : wfR x) (hl : l.length ≤ 32) (hbs : base ≤ w.heap.size) :
    Calls Tryd.prog 6 #[.pointer (some ⟨b, 0, none⟩), .agg (ruc x).toArray] w fun e w' => e = .returned (.int .i64 (adE l x)) ∧ RLq 56 base w w' b v (adL l x) := by
  obtain ⟨i0, hi0, hz0, hz1, hz2⟩ := info_partsU info_rule
  have HR9 := hide (fun W => right9_any x W hx)
  have lb0 : Later w (w.alloc (.cells (ruc x).toArray 33)) := (Below.refl _ _).alloc (Nat.le_refl _) _
  have rb := heap_alloc_new w (.cells (ruc x).toArray 33)
  obtain ⟨av, cv, rfl, _, _⟩ := (ownU_rd hT.2.2).slice
  have HNE : Hid (some b ≠ Value.ownBlock (.slice av l.length cv)) := fun e => hT.ne hT.2.1 (by decide) e.symm
  go_enter Tryd.func6, Tryd.ntmps6
  unfold ruc at rb
  have rk := block_cell rb
  unfold ruc
  go_wp2_with fail
  change Calls _ _ #[.agg (ruc x).toArray] (w.alloc (.cells (ruc x).toArray 33)) _
  unfold ruc at lb0
  unfold ruc
  generalize w.alloc _ = w0 at *
  refine (HR9.out w0).mono ?_
  rintro e w1 ⟨rfl, l1⟩
  cases hrt : rtB x with
  | false =>
    have hae : adE l x = 4 := by unfold adE; rw [if_pos hrt]
    have HAE := hide hae
    have HAL := hide (adL_no (l := l) (x := x) (by rw [hae]; omega))
    have lz := lb0.trans l1
    clear hae rk
    go_wp2_with fail
    go_ret
    exact ⟨by rw [HAE.out]; rfl, by rw [HAL.out]; exact RLq.same hT lz⟩
  | true =>
    have r1 := later_keep l1 rb
    clear rk
    have rk := block_cell r1
    have hT1 := hT.later (lb0.trans l1)
    go_wp2_with fail
    refine (has_anyU base (some ⟨b, 0, none⟩) l x w1 (.inr ⟨b, _, rfl, hT1⟩)).mono ?_
    rintro e w2 ⟨rfl, l2⟩
    have lz := (lb0.trans l1).trans l2
    cases hhs : hasB x l with
    | true =>
      have hae : adE l x = 10 := by unfold adE; rw [hrt, hhs]; simp
      have HAE := hide hae
      have HAL := hide (adL_no (l := l) (x := x) (by rw [hae]; omega))
      clear hae rk hrt hhs
      go_wp2_with fail
      go_ret
      exact ⟨by rw [HAE.out]; rfl, by rw [HAL.out]; exact RLq.same hT lz⟩
    | false =>
      have r2 := later_keep l2 r1
      have k2 := block_cell (hT.later lz).2.1
      by_cases hfull : 32 ≤ l.length
      · have hae : adE l x = 9 := by unfold adE; rw [hrt, hhs, if_neg (by simp), if_neg (by simp), if_pos hfull]
        have HAE := hide hae
        have HAL := hide (adL_no (l := l) (x := x) (by rw [hae]; omega))
        have hf' : (32 : Int) ≤ l.length := by omega
        clear hae rk hrt hhs
        go_wp2_with fail
        go_ret
        exact ⟨by rw [HAE.out]; rfl, by rw [HAL.out]; exact RLq.same hT lz⟩
      · have hae : adE l x = 0 := by unfold adE; rw [hrt, hhs, if_neg (by simp), if_neg (by simp), if_neg hfull]
        have HAE := hide hae
        have HAL := hide (adL_yes (l := l) (x := x) hae)
        have hf' : ¬ (32 : Int) ≤ l.length := by omega
        clear hae rk hrt hhs
        go_wp2_with fail
        clear k2
        have lbx := lz
        have rb := r2
        generalize hwx : w2 = wx at *
        clear hwx
        refine anyT_begin (R := But (fun g => g = b ∨ Value.ownBlock (.slice av l.length cv) = some g)) 11 rfl (by kernel_rfl) ?_
        have ld : Later wx wx.drew := Later.drew wx
        have LD := lbx.trans ld
        have rd0 := later_keep ld rb
        generalize wx.drew = Wd at *
        have hTd := hT.later LD
        have hnb : w.heap.size ≠ b := fun e => by have := hT.blt; omega
        have hnv : Value.ownBlock (.slice av l.length cv) ≠ some w.heap.size := fun e => by have := (hT.lt e).2; omega
        have ha : ∀ v1, But (fun g => g = b ∨ Value.ownBlock (.slice av l.length cv) = some g) Wd v1 → ∀ j, v1.cell? ⟨w.heap.size, j, none⟩ = #[Value.int .i64 x.kind, .int .u8 x.proto, .int .u32 x.net, .int .i64 x.bits, .int .u32 x.tt, .int .u16 x.port, .int .u32 x.host, .int .u16 x.hp][j]? := fun v1 hv => block_cell ((hv.block w.heap.size (Array.getElem?_eq_some_iff.1 rd0).1 (fun hE => hE.elim hnb hnv)).trans rd0)
        refine anyT_val (But.pre _) 0 rfl (by kernel_rfl) (by kernel_rfl) (by kernel_rfl) (fun _ _ _ _ h => h) rfl ?_; apply Exists.intro; refine ⟨fun v1 hv1 => ?_, ?_⟩; (· (go_simp; rfl)); simp only [Act.put, List.setIfInBounds_toArray, List.set_cons_zero, List.set_cons_succ]
        refine anyT_val (But.pre _) 1 rfl (by kernel_rfl) (by kernel_rfl) (by kernel_rfl) (fun _ _ _ _ h => h) rfl ?_; apply Exists.intro; refine ⟨fun v1 hv1 => ?_, ?_⟩; (· (go_simp; rfl)); simp only [Act.put, List.setIfInBounds_toArray, List.set_cons_zero, List.set_cons_succ]
        refine anyT_val (But.pre _) 2 rfl (by kernel_rfl) (by kernel_rfl) (by kernel_rfl) (fun _ _ _ _ h => h) rfl ?_; apply Exists.intro; refine ⟨fun v1 hv1 => ?_, ?_⟩; (· (go_simp; rfl)); simp only [Act.put, List.setIfInBounds_toArray, List.set_cons_zero, List.set_cons_succ]
        refine anyT_val (But.pre _) 3 rfl (by kernel_rfl) (by kernel_rfl) (by kernel_rfl) (fun _ _ _ _ h => h) rfl ?_; apply Exists.intro; refine ⟨fun v1 hv1 => ?_, ?_⟩; (· (go_simp; rfl)); simp only [Act.put, List.setIfInBounds_toArray, List.set_cons_zero, List.set_cons_succ]
        refine anyT_val (But.pre _) 5 rfl (by kernel_rfl) (by kernel_rfl) (by kernel_rfl) (fun _ _ _ _ h => h) rfl ?_; apply Exists.intro; refine ⟨fun v1 hv1 => ?_, ?_⟩; (· (go_simp; rfl)); simp only [Act.put, List.setIfInBounds_toArray, List.set_cons_zero, List.set_cons_succ]
        clear ha
        have kd := block_cell hTd.2.1
        refine anyT_two 4 6 rfl rfl (by kernel_rfl) rfl rfl ?_ ?_
        · unfold Oper.wp
          go_simp
          refine ⟨But.refl _ _, ?_⟩
          clear kd
          refine anyT_one 6 rfl (by kernel_rfl) rfl ?_
          unfold Oper.wp
          go_simp
          have l1 : Later Wd (Wd.alloc (.cells (ruc x).toArray 33)) := (Below.refl _ _).alloc (Nat.le_refl _) _
          have HN1 := new_rowU Wd x
          have LL := LD.trans l1
          refine ⟨But.of l1, ?_⟩
          change wpAnyT _ _ _ _ _ _ _ _ (Wd.alloc (.cells (ruc x).toArray 33))
          generalize Wd.alloc (.cells (ruc x).toArray 33) = W1 at *
          generalize Wd.heap.size = gn at *
          have hT1 := hT.later LL
          have hO1 := hT1.2.2
          have hbs1 := Nat.le_trans hbs LL.size
          refine anyT_one 7 rfl (by kernel_rfl) rfl ?_
          refine wp_append_lies W1 (.tmp 27) (.tmp 29) 54 rfl base 33 i0 (.agg #[.int .i64 0, .int .u8 0, .int .u32 0, .int .i64 0, .int .u32 0, .int .u16 0, .int .u32 0, .int .u16 0]) 8 40 Tryd.underlying54 hi0 hz0 hz1 hz2 rfl (by decide) (.slice av l.length cv) l.length (rus l) rfl hO1 ⟨gn, 0, none⟩ 1 1 (ruc x) rfl rfl HN1 (by intro u hu; simp only [ruc, List.mem_cons, List.not_mem_nil, or_false] at hu; rcases hu with rfl | rfl | rfl | rfl | rfl | rfl | rfl | rfl <;> rfl) (by omega) (by unfold maxLen; omega) (by omega) hbs1 _ rfl ?_
          intro g' cap' W6 hrow6 hg6 hpl hlt6
          have hb6 : But (fun g => g = b ∨ Value.ownBlock (.slice av l.length cv) = some g) W1 W6 := ⟨hg6.os, hg6.tape, hg6.output, hg6.size, fun k hk he => hg6.block k hk (fun e => he (.inr e.symm))⟩
          refine ⟨hb6, ?_⟩
          simp only [Act.put, List.setIfInBounds_toArray, List.set_cons_zero, List.set_cons_succ]
          have h6 : W6.heap[b]? = some (.cells #[.slice av l.length cv] 56 (0, 0)) := (hg6.block b (Array.getElem?_eq_some_iff.1 hT1.2.1).1 HNE.out).trans hT1.2.1
          have k6 := block_cell h6
          have f6 := block_frozen h6
          refine anyT_val (But.pre _) 8 rfl (by kernel_rfl) (by kernel_rfl) (by kernel_rfl) (fun _ _ _ _ h => h) rfl ?_; apply Exists.intro; refine ⟨fun v1 hv1 => ?_, ?_⟩; (· (go_simp; rfl)); simp only [Act.put, List.setIfInBounds_toArray, List.set_cons_zero, List.set_cons_succ]
          refine anyT_val (But.pre _) 9 rfl (by kernel_rfl) (by kernel_rfl) (by kernel_rfl) (fun _ _ _ _ h => h) rfl ?_; apply Exists.intro; refine ⟨fun v1 hv1 => ?_, ?_⟩; (· (go_simp; rfl)); simp only [Act.put, List.setIfInBounds_toArray, List.set_cons_zero, List.set_cons_succ]
          refine anyT_one 10 rfl (by kernel_rfl) rfl ?_
          unfold Oper.wp
          go_simp
          generalize hV : W6.setCell ⟨b, 0, none⟩ _ = V
          have hV3 := heap_set1 h6 0 (.slice (some ⟨g', 0, none⟩) (l.length + 1) cap')
          rw [hV] at hV3
          have hbV2 : But (fun g => g = b ∨ Value.ownBlock (.slice av l.length cv) = some g) W6 V := by rw [← hV]; exact (But.refl (fun g => g = b ∨ Value.ownBlock (.slice av l.length cv) = some g) _).setCell (p := ⟨b, 0, none⟩) (.inl rfl) _
          have hbV1 : But (fun g => g = b) W6 V := by rw [← hV]; exact (But.refl (fun g => g = b) _).setCell (p := ⟨b, 0, none⟩) rfl _
          refine ⟨hbV2, ?_⟩
          clear hV k6 f6
          refine anyT_done (by kernel_rfl) ?_
          have hfin : RLq 56 base w V b (.slice av l.length cv) (l ++ [x]) := by
            refine ⟨.slice (some ⟨g', 0, none⟩) (l.length + 1) cap', ⟨hT.1, hV3, ?_⟩, (But.of LL).trans (hb6.trans hbV2), ?_⟩
            · rw [rus_snoc, List.length_append, List.length_singleton]
              obtain ⟨q1, ⟨q2, q3⟩ | ⟨g, cap, cur, hv, hgb, hh, q⟩⟩ := hrow6
              · simp at q2
              · refine ⟨q1, .inr ⟨g, cap, cur, hv, hgb, (hbV1.block g (Array.getElem?_eq_some_iff.1 hh).1 (fun e => ?_)).trans hh, q⟩⟩
                subst e
                rw [h6] at hh
                simp at hh
            · rcases hpl with h | h
              · exact .inl h.symm
              · refine .inr (fun g hg => ?_)
                have : g' = g := by simpa [Value.ownBlock] using hg
                subst this
                have := LL.size
                omega
          have HF := hide hfin
          clear hfin
          go_wp2_with fail
          go_ret
          exact ⟨by rw [HAE.out]; rfl, by rw [HAL.out]; exact HF.out⟩
        · unfold Oper.wp
          go_simp
          have l1 : Later Wd (Wd.alloc (.cells (ruc x).toArray 33)) := (Below.refl _ _).alloc (Nat.le_refl _) _
          have HN1 := new_rowU Wd x
          have LL := LD.trans l1
          refine ⟨But.of l1, ?_⟩
          have k1 := block_cell (later_keep l1 hTd.2.1)
          clear kd
          change wpAnyT _ _ _ _ _ _ _ _ (Wd.alloc (.cells (ruc x).toArray 33))
          generalize Wd.alloc (.cells (ruc x).toArray 33) = W1 at *
          generalize Wd.heap.size = gn at *
          refine anyT_one 4 rfl (by kernel_rfl) rfl ?_
          unfold Oper.wp
          go_simp
          refine ⟨But.refl _ _, ?_⟩
          clear k1
          have hT1 := hT.later LL
          have hO1 := hT1.2.2
          have hbs1 := Nat.le_trans hbs LL.size
          refine anyT_one 7 rfl (by kernel_rfl) rfl ?_
          refine wp_append_lies W1 (.tmp 27) (.tmp 29) 54 rfl base 33 i0 (.agg #[.int .i64 0, .int .u8 0, .int .u32 0, .int .i64 0, .int .u32 0, .int .u16 0, .int .u32 0, .int .u16 0]) 8 40 Tryd.underlying54 hi0 hz0 hz1 hz2 rfl (by decide) (.slice av l.length cv) l.length (rus l) rfl hO1 ⟨gn, 0, none⟩ 1 1 (ruc x) rfl rfl HN1 (by intro u hu; simp only [ruc, List.mem_cons, List.not_mem_nil, or_false] at hu; rcases hu with rfl | rfl | rfl | rfl | rfl | rfl | rfl | rfl <;> rfl) (by omega) (by unfold maxLen; omega) (by omega) hbs1 _ rfl ?_
          intro g' cap' W6 hrow6 hg6 hpl hlt6
          have hb6 : But (fun g => g = b ∨ Value.ownBlock (.slice av l.length cv) = some g) W1 W6 := ⟨hg6.os, hg6.tape, hg6.output, hg6.size, fun k hk he => hg6.block k hk (fun e => he (.inr e.symm))⟩
          refine ⟨hb6, ?_⟩
          simp only [Act.put, List.setIfInBounds_toArray, List.set_cons_zero, List.set_cons_succ]
          have h6 : W6.heap[b]? = some (.cells #[.slice av l.length cv] 56 (0, 0)) := (hg6.block b (Array.getElem?_eq_some_iff.1 hT1.2.1).1 HNE.out).trans hT1.2.1
          have k6 := block_cell h6
          have f6 := block_frozen h6
          refine anyT_val (But.pre _) 8 rfl (by kernel_rfl) (by kernel_rfl) (by kernel_rfl) (fun _ _ _ _ h => h) rfl ?_; apply Exists.intro; refine ⟨fun v1 hv1 => ?_, ?_⟩; (· (go_simp; rfl)); simp only [Act.put, List.setIfInBounds_toArray, List.set_cons_zero, List.set_cons_succ]
          refine anyT_val (But.pre _) 9 rfl (by kernel_rfl) (by kernel_rfl) (by kernel_rfl) (fun _ _ _ _ h => h) rfl ?_; apply Exists.intro; refine ⟨fun v1 hv1 => ?_, ?_⟩; (· (go_simp; rfl)); simp only [Act.put, List.setIfInBounds_toArray, List.set_cons_zero, List.set_cons_succ]
          refine anyT_one 10 rfl (by kernel_rfl) rfl ?_
          unfold Oper.wp
          go_simp
          generalize hV : W6.setCell ⟨b, 0, none⟩ _ = V
          have hV3 := heap_set1 h6 0 (.slice (some ⟨g', 0, none⟩) (l.length + 1) cap')
          rw [hV] at hV3
          have hbV2 : But (fun g => g = b ∨ Value.ownBlock (.slice av l.length cv) = some g) W6 V := by rw [← hV]; exact (But.refl (fun g => g = b ∨ Value.ownBlock (.slice av l.length cv) = some g) _).setCell (p := ⟨b, 0, none⟩) (.inl rfl) _
          have hbV1 : But (fun g => g = b) W6 V := by rw [← hV]; exact (But.refl (fun g => g = b) _).setCell (p := ⟨b, 0, none⟩) rfl _
          refine ⟨hbV2, ?_⟩
          clear hV k6 f6
          refine anyT_done (by kernel_rfl) ?_
          have hfin : RLq 56 base w V b (.slice av l.length cv) (l ++ [x]) := by
            refine ⟨.slice (some ⟨g', 0, none⟩) (l.length + 1) cap', ⟨hT.1, hV3, ?_⟩, (But.of LL).trans (hb6.trans hbV2), ?_⟩
            · rw [rus_snoc, List.length_append, List.length_singleton]
              obtain ⟨q1, ⟨q2, q3⟩ | ⟨g, cap, cur, hv, hgb, hh, q⟩⟩ := hrow6
              · simp at q2
              · refine ⟨q1, .inr ⟨g, cap, cur, hv, hgb, (hbV1.block g (Array.getElem?_eq_some_iff.1 hh).1 (fun e => ?_)).trans hh, q⟩⟩
                subst e
                rw [h6] at hh
                simp at hh
            · rcases hpl with h | h
              · exact .inl h.symm
              · refine .inr (fun g hg => ?_)
                have : g' = g := by simpa [Value.ownBlock] using hg
                subst this
                have := LL.size
                omega
          have HF := hide hfin
          clear hfin
          go_wp2_with fail
          go_ret
          exact ⟨by rw [HAE.out]; rfl, by rw [HAL.out]; exact HF.out⟩
end Go.Proofs.YtomdccljoaieeaaDoor

/- What TopMasks needs of its callees, in one form. -/
namespace Go.Proofs.YtomdccljoaieeaaDoor
open Go.RowKit Go.Shelf
set_option maxRecDepth 100000
set_option linter.unusedVariables false
set_option linter.unusedSimpArgs false

/-- A datagram in bytes, with its tuple and its data. -/
def UF (src dst a b : Int) (zm z : List Int) : Prop := Mt.By z ∧ z.length ≤ 200 ∧ ofe 17 src dst z = 0 ∧ ofa 17 z = a ∧ ofb 17 z = b ∧ z.drop 8 = zm

theorem uf_built (src dst a b : Int) (zm : List Int) (hsr : 0 ≤ src ∧ src ≤ 4294967295) (hds : 0 ≤ dst ∧ dst ≤ 4294967295) (ha : 0 ≤ a ∧ a ≤ 65535) (hb : 0 ≤ b ∧ b ≤ 65535) (hB : Mt.By zm) (hl : zm.length ≤ 100) : UF src dst a b zm (udp a b false src dst zm) := by
  refine ⟨By_udp a b false src dst zm ha hb hB, by rw [udp_length]; omega, ?_, udp_w0 _ _ _ _ _ _, udp_w2 _ _ _ _ _ _, udp_drop _ _ _ _ _ _⟩
  rw [show ofe 17 src dst (udp a b false src dst zm) = pue 17 src dst (udp a b false src dst zm) from rfl, udp_pue _ _ _ _ _ _ 17 rfl src dst (by omega), if_neg]
  intro h
  exact h.2 (udp_good a b src dst zm hsr hds (By_udp0 a b zm ha hb hB))

theorem uf_rewritten {src dst a b s d a' b' : Int} {zm z : List Int} (h : UF src dst a b zm z) (hs : 0 ≤ s ∧ s ≤ 4294967295) (hd : 0 ≤ d ∧ d ≤ 4294967295) (ha : 0 ≤ a' ∧ a' ≤ 65535) (hb : 0 ≤ b' ∧ b' ≤ 65535) : UF s d a' b' zm (rwD 17 s d a' b' z) := by
  obtain ⟨hB, hl, he, _, _, hz⟩ := h
  obtain ⟨h1, h2, h3⟩ := rwD_tells (s := s) (d := d) (a := a') (b := b') hB he hs hd ha hb
  refine ⟨rwD_by hB ha hb, by rw [rwD_length]; exact hl, h1, by rw [h2]; rfl, by rw [h3]; rfl, ?_⟩
  rw [← hz, show rwD 17 s d a' b' z = rwU s d a' b' z from rfl]
  exact drop_same fun j hj => rwU_other _ _ _ _ _ _ (by omega) (by omega) (by omega)

theorem tm_build (src dst a b : Int) (sm : Value) (zm : List Int) (w : World) (hsr : 0 ≤ src ∧ src ≤ 4294967295) (hds : 0 ≤ dst ∧ dst ≤ 4294967295) (ha : 0 ≤ a ∧ a ≤ 65535) (hb : 0 ≤ b ∧ b ≤ 65535) (hB : Mt.By zm) (hI : Rd w.heap.size w sm zm) (hl : zm.length ≤ 100) :
    Calls Tryd.prog 9 #[.agg #[.int .u8 0, .int .u16 0, .bool false, .int .u8 0, .int .u8 0, .int .u32 src, .int .u32 dst, .slice none 0 0, .slice none 0 0], .agg #[.int .u16 a, .int .u16 b, .bool false, sm]] w fun e w' => Later w w' ∧ ∃ a7 c7 a8 l8 c8 z, e = .returned (.tuple #[.agg #[.int .u8 0, .int .u16 0, .bool false, .int .u8 0, .int .u8 17, .int .u32 src, .int .u32 dst, .slice a7 0 c7, .slice a8 l8 c8], .int .i64 0]) ∧ UF src dst a b zm z ∧ Ow w.heap.size w' (.slice a7 0 c7) [] ∧ Ow w.heap.size w' (.slice a8 l8 c8) z := by
  refine (buildUdp_any 0 0 0 0 src dst a b false false _ _ _ [] zm w Mt.By.nil (rd_zero w) hB hI (by simp) (by omega) (by omega) (by omega) (by omega) hsr hds ha hb).mono ?_
  have HZ : flt ([] : List Int).length (8 + zm.length) = 0 := by unfold flt; rw [if_neg (by simp), if_neg (by simp; omega)]
  rintro e w' ⟨hb1, ⟨hx, _⟩ | ⟨_, a7, c7, a8, c8, rfl, hO, hD⟩⟩
  · exact absurd HZ hx
  · exact ⟨hb1, _, _, _, _, _, _, rfl, uf_built src dst a b zm hsr hds ha hb hB hl, hO, hD⟩

theorem tm_rewrite (src dst a b s d a' b' : Int) (so sd : Value) (zm z : List Int) (w : World) (hT : Tb w) (h : UF src dst a b zm z) (hIo : Rd w.heap.size w so []) (hId : Rd w.heap.size w sd z) (hsr : 0 ≤ src ∧ src ≤ 4294967295) (hds : 0 ≤ dst ∧ dst ≤ 4294967295) (hs : 0 ≤ s ∧ s ≤ 4294967295) (hd : 0 ≤ d ∧ d ≤ 4294967295) (ha : 0 ≤ a' ∧ a' ≤ 65535) (hb : 0 ≤ b' ∧ b' ≤ 65535) :
    Calls Tryd.prog 11 #[.agg #[.int .u8 0, .int .u16 0, .bool false, .int .u8 0, .int .u8 17, .int .u32 src, .int .u32 dst, so, sd], .agg #[.int .u8 17, .int .u32 s, .int .u32 d, .int .u16 a', .int .u16 b']] w fun e w' => Later w w' ∧ ∃ a7 c7 a8 l8 c8 z', e = .returned (.tuple #[.agg #[.int .u8 0, .int .u16 0, .bool false, .int .u8 0, .int .u8 17, .int .u32 s, .int .u32 d, .slice a7 0 c7, .slice a8 l8 c8], .int .i64 0]) ∧ UF s d a' b' zm z' ∧ Ow w.heap.size w' (.slice a7 0 c7) [] ∧ Ow w.heap.size w' (.slice a8 l8 c8) z' := by
  refine (rewrite_any 0 0 0 17 src dst false so sd [] z 17 s d a' b' w hT Mt.By.nil h.1 hIo hId (by simp) (by have := h.2.1; omega) (by omega) (by omega) (by omega) (by omega) hsr hds hs hd ha hb).mono ?_
  have HZ : rwe 17 17 src dst ([] : List Int).length z = 0 := by
    unfold rwe
    have h2 := h.2.1
    have h3 := h.2.2.1
    simp [h3, flt]
    omega
  rintro e w' ⟨hb1, ⟨hx, _⟩ | ⟨_, a7, c7, a8, c8, rfl, hO, hD⟩⟩
  · exact absurd HZ hx
  · exact ⟨hb1, _, _, _, _, _, _, rfl, uf_rewritten h hs hd ha hb, hO, hD⟩

theorem tm_of (src dst a b : Int) (so sd : Value) (zm z : List Int) (w : World) (hT : Tb w) (h : UF src dst a b zm z) (hId : Rd w.heap.size w sd z) (hsr : 0 ≤ src ∧ src ≤ 4294967295) (hds : 0 ≤ dst ∧ dst ≤ 4294967295) :
    Calls Tryd.prog 10 #[.agg #[.int .u8 0, .int .u16 0, .bool false, .int .u8 0, .int .u8 17, .int .u32 src, .int .u32 dst, so, sd]] w fun e w' => Later w w' ∧ e = .returned (.tuple #[.agg #[.int .u8 17, .int .u32 src, .int .u32 dst, .int .u16 a, .int .u16 b], .int .i64 0]) := by
  refine (of_any 0 0 0 17 src dst false so sd z w hT h.1 hId (by have := h.2.1; omega) hsr hds).mono ?_
  rintro e w' ⟨hb1, rfl⟩
  rw [h.2.2.1, h.2.2.2.1, h.2.2.2.2.1]
  exact ⟨hb1, by unfold otv; simp⟩

theorem tm_parse (src dst a b : Int) (so sd : Value) (zm z : List Int) (w : World) (h : UF src dst a b zm z) (hId : Rd w.heap.size w sd z) (hsr : 0 ≤ src ∧ src ≤ 4294967295) (hds : 0 ≤ dst ∧ dst ≤ 4294967295) :
    Calls Tryd.prog 12 #[.agg #[.int .u8 0, .int .u16 0, .bool false, .int .u8 0, .int .u8 17, .int .u32 src, .int .u32 dst, so, sd]] w fun e w' => Later w w' ∧ ∃ k0 k2 k6 ad ld cd, e = .returned (.tuple #[.agg #[.int .u16 k0, .int .u16 k2, .bool k6, .slice ad ld cd], .int .i64 0]) ∧ Ow w.heap.size w' (.slice ad ld cd) zm := by
  refine (parseUdp_any 0 0 0 17 src dst false so sd z w h.1 hId (by have := h.2.1; omega) hsr hds).mono ?_
  have HZ : pue 17 src dst z = 0 := h.2.2.1
  rintro e w' ⟨hb1, ⟨hx, _⟩ | ⟨_, ad, cd, rfl, hD⟩⟩
  · exact absurd HZ hx
  · rw [h.2.2.2.2.2] at hD
    exact ⟨hb1, _, _, _, _, _, _, rfl, hD⟩

theorem tm_take (base b wish : Nat) (w : World) (hT : PB base w b ((2000 : Nat) : Int) ((2009 : Nat) : Int) (wsOf (nums 2000 2009))) (hz : Dz w) (hw : wish < 65536) :
    Calls Tryd.prog 8 #[.pointer (some ⟨b, 0, none⟩), .int .u16 (wish : Int)] w fun e w' => ∃ n : Int, 0 ≤ n ∧ n ≤ 65535 ∧ e = .returned (.tuple #[.int .u16 n, .int .i64 0]) ∧ But (fun g => g = b) w w' := by
  have hf : ∀ m, m < 65536 → fr (wsOf (nums 2000 2009)) m = decide (2000 ≤ m ∧ m ≤ 2009) := fun m _ => by
    rw [fr_wsOf, decide_eq_decide, mem_nums (by omega)]
  have hL := els_interval _ 2000 2009 (by omega) (by omega) hf
  obtain ⟨L, hL2⟩ := nums_cons 2000 2009 (by omega)
  refine (take8_any base b 2000 2009 _ wish w hT hw hz).mono ?_
  rintro e w' ⟨rfl, ht, hbt⟩
  have hls : els (wsOf (nums 2000 2009)) = 2000 :: L := hL.trans hL2
  rw [hls]
  clear ht hT
  generalize fr (wsOf (nums 2000 2009)) wish = q
  refine ⟨((fsn q wish (2000 :: L) : Nat) : Int), by omega, ?_, ?_, hbt⟩
  · unfold fsn
    split
    · omega
    · simp
  · rw [tke_t (show fsb q (2000 :: L) = true by unfold fsb; simp)]

def mr9 : Ru := ⟨1, 0, 167772160, 8, 16909060, 0, 0, 0⟩
theorem mr_add : adE [] mr9 = 0 := by decide +kernel
theorem mr_list : adL [] mr9 = [mr9] := adL_yes mr_add
theorem mr_wf : wfR mr9 := by unfold wfR mr9; simp
theorem mr_ok : okL [mr9] := by
  rw [← mr_list]
  exact okL_add ⟨by simp, fun x hx => by cases hx⟩ mr_wf
theorem mr_q (src : Int) (h : src / 16777216 = 10) : mqB src mr9 = true := by
  unfold mqB mr9 upp
  simp only [decide_true, Bool.true_and]
  rw [show ((8 : Int).toNat) = 8 from rfl]
  simp only [Nat.reduceSub, Int.reducePow]
  simp
  omega
theorem mr_fnd (src : Int) (h : src / 16777216 = 10) : fnd (mqB src) [mr9] = mr9 ∧ fdb (mqB src) [mr9] = true := by
  unfold fnd fdb
  simp [List.find?, mr_q src h]
end Go.Proofs.YtomdccljoaieeaaDoor

/- The walk of TopMasks. -/
namespace Go.Proofs.YtomdccljoaieeaaDoor
open Go.RowKit Go.Shelf
set_option maxRecDepth 100000
set_option linter.unusedVariables false
set_option linter.unusedSimpArgs false

/-- What the second Rewrite leaves. -/
def MQ (src server x0 x1 : Int) (W : World) (q x : Value) (wx : World) : Prop := ∃ g e7 f7 e8 k8 f8 z, q = .pointer (some ⟨g, 0, none⟩) ∧ x = .int .i64 0 ∧ wx.heap[g]? = some (.cells #[.int .u8 0, .int .u16 0, .bool false, .int .u8 0, .int .u8 17, .int .u32 server, .int .u32 src, .slice e7 0 f7, .slice e8 k8 f8] 40 (0, 0)) ∧ UF server src x1 x0 [] z ∧ Rd wx.heap.size wx (.slice e8 k8 f8) z ∧ Later W wx

theorem rd_mark9 (l : List Int) (e : TypeId) (m : Nat × Nat) (w : World) (hne : l ≠ []) (hm : l.length ≤ 1000) : Rd (w.alloc (.cells (l.map (Value.int .u8)).toArray e m)).heap.size (w.alloc (.cells (l.map (Value.int .u8)).toArray e m)) (.slice (some ⟨w.heap.size, 0, none⟩) l.length l.length) l := by
  refine .inr ⟨w.heap.size, 0, l.length, rfl, hne, Nat.le_refl _, by omega, by simp, fun j hj => ?_⟩
  rw [Nat.zero_add, World.cell?_alloc_mark w _ _ _ j, List.getElem?_toArray, List.getElem?_map, List.getElem?_eq_getElem hj]
  rfl

set_option maxHeartbeats 8000000 in
theorem walk_TopMasks (w : World) (hT : Tb w) (hz : Dz w) (host : Int) (hh : 0 ≤ host ∧ host ≤ 65535) (server : Int) (hse : 0 ≤ server ∧ server ≤ 4294967295) (x0 : Int) (hx0 : 0 ≤ x0 ∧ x0 ≤ 65535) (x1 : Int) (hx1 : 0 ≤ x1 ∧ x1 ≤ 65535) :
    Calls Tryd.prog 3 #[.int .u16 host, .int .u32 server, .agg #[.int .u16 x0, .int .u16 x1]] w fun e w' => e = .returned (.bool true) ∧ Below w.heap.size w w' := by
  have lb0 : Later w (w.alloc (.cells #[.int .u16 x0, .int .u16 x1] 24)) := (Below.refl _ _).alloc (Nat.le_refl _) _
  have c0 := heap_alloc_new w (.cells #[.int .u16 x0, .int .u16 x1] 24)
  go_enter Tryd.func3, Tryd.ntmps3
  go_upto_region 1 with fail
  generalize w.alloc _ = w0 at *
  have C0 := hide c0
  have hlt0 : w.heap.size < w0.heap.size := (Array.getElem?_eq_some_iff.1 c0).1
  clear c0
  go_wp2_with fail
  generalize hsrc : (167772160 : Int) + host = src at *
  have hsr : 0 ≤ src ∧ src ≤ 4294967295 := by omega
  have hs10 : src / 16777216 = 10 := by omega
  have HMF := hide (mr_fnd src hs10)
  clear hsrc hh hs10
  refine (new9_any w0).mono ?_
  rintro e w1 ⟨rfl, l1, hR1⟩
  have HN := hide (new8_yes 2000 2009 (by omega) (by omega) (by omega) w1)
  rw [show ((2000 : Nat) : Int) = 2000 from rfl, show ((2009 : Nat) : Int) = 2009 from rfl] at HN
  go_wp2_with fail
  refine HN.out.mono ?_
  rintro e w2 ⟨rfl, l2, hP2⟩
  have hR2 := hR1.later l2
  have hne12 : w0.heap.size < w1.heap.size := hR1.blt
  have hne2 : w1.heap.size < w2.heap.size := hP2.lt
  have L2 : Later w w2 := lb0.trans (l1.trans l2)
  have C2 := hide (later_keep (l1.trans l2) C0.out)
  clear HN hR1 C0 l1 l2 lb0
  generalize w0.heap.size = rb at *
  generalize w1.heap.size = qb at *
  go_wp2_with fail
  refine (add9_any rb rb (.slice none 0 0) [] mr9 w2 hR2 mr_wf (by simp) (by omega)).mono ?_
  rw [mr_add, mr_list]
  rintro e w3 ⟨rfl, v3, hR3, hb3, f3⟩
  have hb3' : But (fun g => g = rb) w2 w3 := hb3.wk (fun k e => by rcases e with e | e; (· exact e); (· cases e))
  have hP3 : PB qb w3 qb 2000 2009 (wsOf (nums 2000 2009)) := ⟨hP2.1, hP2.2.1, (hb3'.block qb hP2.lt (by omega)).trans hP2.2.2⟩
  have L3 : Later w w3 := Below.trans L2 (hb3'.below L2.size (fun k hk e => by subst e; omega))
  have C3 := hide ((hb3'.block w.heap.size (by omega) (by omega)).trans C2.out)
  clear hb3 hb3' hP2 hR2 C2 f3
  go_wp2_with fail
  refine (masq_any rb (some ⟨rb, 0, none⟩) [mr9] src w3 (.inr ⟨_, _, rfl, hR3⟩) mr_ok hsr).mono ?_
  rintro e w4 ⟨rfl, l4⟩
  rw [HMF.out.1, HMF.out.2, show (ruc mr9).toArray = #[.int .i64 1, .int .u8 0, .int .u32 167772160, .int .i64 8, .int .u32 16909060, .int .u16 0, .int .u32 0, .int .u16 0] from rfl]
  have la4 : Later w4 (w4.alloc (.cells #[.int .i64 1, .int .u8 0, .int .u32 167772160, .int .i64 8, .int .u32 16909060, .int .u16 0, .int .u32 0, .int .u16 0] 33)) := (Below.refl _ _).alloc (Nat.le_refl _) _
  have z4 := hide (heap_alloc_new w4 (.cells #[.int .i64 1, .int .u8 0, .int .u32 167772160, .int .i64 8, .int .u32 16909060, .int .u16 0, .int .u32 0, .int .u16 0] 33))
  have m4 := l4.trans la4
  have L5 := L3.trans m4
  have hP5 := hP3.later m4
  have C5 := hide (later_keep m4 C3.out)
  have hlt4 : qb < w4.heap.size := Nat.lt_of_lt_of_le hP3.lt l4.size
  clear hR3 hP3 C3 HMF
  go_upto_region 5 with fail
  generalize w4.alloc _ = w5 at *
  generalize w4.heap.size = B at *
  clear l4 la4 m4
  have k5 := block_cell C5.out
  obtain ⟨n0, rfl⟩ : ∃ n0 : Nat, x0 = (n0 : Int) := ⟨x0.toNat, by omega⟩
  have HTK := hide (tm_take qb qb n0 w5 hP5 (hz.later L5) (by omega))
  generalize ((n0 : Nat) : Int) = x0 at *
  go_wp2_with fail
  refine HTK.out.mono ?_
  rintro e w6 ⟨n, hn0, hn1, rfl, hb6⟩
  have L6 : Later w w6 := Below.trans L5 (hb6.below L5.size (fun k hk e => by subst e; omega))
  have C6 := (hb6.block w.heap.size (Array.getElem?_eq_some_iff.1 C5.out).1 (by omega)).trans C5.out
  have B6 := hide ((hb6.block B (Array.getElem?_eq_some_iff.1 z4.out).1 (by omega)).trans z4.out)
  clear HTK hb6 hP5 k5 C5 z4 hlt4 L5
  have k6 := block_cell C6
  have hcv := Lib.run_convert_bytes_const (P := Tryd.prog) w6 38 5 #[.int .u8 97, .int .u8 115, .int .u8 107] 3 3 Tryd.underlying38 Tryd.underlying5
  have la7 := later_alloc' w6 (.cells #[.int .u8 97, .int .u8 115, .int .u8 107] 5 (3, 4))
  have r7 : Rd (w6.alloc (.cells #[.int .u8 97, .int .u8 115, .int .u8 107] 5 (3, 4))).heap.size (w6.alloc (.cells #[.int .u8 97, .int .u8 115, .int .u8 107] 5 (3, 4))) (.slice (some ⟨w6.heap.size, 0, none⟩) 3 3) [97, 115, 107] := rd_mark9 [97, 115, 107] 5 (3, 4) w6 (by decide) (by decide)
  have L7 := L6.trans la7
  have B7 := hide (later_keep la7 B6.out)
  clear B6
  go_wp2_with fail
  clear hcv
  generalize w6.alloc (.cells _ _ (3, 4)) = w7 at *
  refine (tm_build src server x0 x1 _ [97, 115, 107] w7 hsr hse hx0 hx1 (fun z hz => by simp at hz; omega) r7 (by simp)).mono ?_
  rintro e w8 ⟨l8, p7, d7, p8, q8, d8, z, rfl, hU, hO, hD⟩
  have la9 := later_alloc' w8 (.cells #[.int .u8 0, .int .u16 0, .bool false, .int .u8 0, .int .u8 17, .int .u32 src, .int .u32 server, .slice p7 0 d7, .slice p8 q8 d8] 40)
  have P9 := hide (heap_alloc_new w8 (.cells #[.int .u8 0, .int .u16 0, .bool false, .int .u8 0, .int .u8 17, .int .u32 src, .int .u32 server, .slice p7 0 d7, .slice p8 q8 d8] 40))
  have L9 := L7.trans (l8.trans la9)
  have B9 := hide (later_keep (l8.trans la9) B7.out)
  have hO9 := hO.later la9
  have hD9 := hD.later la9
  clear k6 C6 r7 B7 hO hD l8 L6 L7 la7
  go_upto_region 7 with fail
  generalize w8.alloc _ = w9 at *
  generalize w8.heap.size = gP at *
  have k9 := block_cell P9.out
  go_wp2_with fail
  refine (tm_of src server x0 x1 _ _ _ z w9 (hT.later L9) hU hD9.rd hsr hse).mono ?_
  rintro e w10 ⟨l10, rfl⟩
  have la11 := later_alloc' w10 (.cells #[.int .u8 17, .int .u32 src, .int .u32 server, .int .u16 x0, .int .u16 x1] 46)
  have T11 := hide (heap_alloc_new w10 (.cells #[.int .u8 17, .int .u32 src, .int .u32 server, .int .u16 x0, .int .u16 x1] 46))
  have m11 := l10.trans la11
  have L11 := L9.trans m11
  have B11 := hide (later_keep m11 B9.out)
  have P11 := hide (later_keep m11 P9.out)
  have hO11 := hO9.later m11
  have hD11 := hD9.later m11
  clear k9 P9 B9 hO9 hD9 la9 l10 la11 m11 L9
  go_upto_region 10 with fail
  generalize w10.alloc _ = w11 at *
  generalize w10.heap.size = gO at *
  have k11 := block_cell T11.out
  have la12 := later_alloc' w11 (.cells #[.int .u8 17, .int .u32 src, .int .u32 server, .int .u16 x0, .int .u16 x1] 46)
  have U12 := hide (heap_alloc_new w11 (.cells #[.int .u8 17, .int .u32 src, .int .u32 server, .int .u16 x0, .int .u16 x1] 46))
  have L12 := L11.trans la12
  have B12 := hide (later_keep la12 B11.out)
  have P12 := hide (later_keep la12 P11.out)
  have T12 := hide (later_keep la12 T11.out)
  have hO12 := hO11.later la12
  have hD12 := hD11.later la12
  have hgB := (Array.getElem?_eq_some_iff.1 B11.out).1
  have hgP := (Array.getElem?_eq_some_iff.1 P11.out).1
  have hgO := (Array.getElem?_eq_some_iff.1 T11.out).1
  have hgW : w.heap.size ≤ w11.heap.size := L11.size
  clear B11 P11 T11 hO11 hD11
  go_upto_region 11 with fail
  clear k11
  generalize w11.alloc _ = w12 at *
  generalize w11.heap.size = gT at *
  have kB := block_cell B12.out
  have kT := block_cell U12.out
  have fT := block_frozen U12.out
  go_upto_region 12 with fail
  clear kB kT fT
  have U13 := hide (heap_set1 (heap_set1 U12.out 1 (.int .u32 16909060)) 3 (.int .u16 n))
  have hb13 : But (fun g => g = gT) w12 ((w12.setCell ⟨gT, 1, none⟩ (.int .u32 16909060)).setCell ⟨gT, 3, none⟩ (.int .u16 n)) := But.setCell (E := fun g => g = gT) (But.setCell (E := fun g => g = gT) (But.refl _ _) (p := ⟨gT, 1, none⟩) rfl _) (p := ⟨gT, 3, none⟩) rfl _
  have hO13 := hO12.aside U12.out (by decide) hb13
  have hD13 := hD12.aside U12.out (by decide) hb13
  have P13 := hide ((hb13.block gP (Array.getElem?_eq_some_iff.1 P12.out).1 (by omega)).trans P12.out)
  have T13 := hide ((hb13.block gO (Array.getElem?_eq_some_iff.1 T12.out).1 (by omega)).trans T12.out)
  have L13 := Below.trans L12 (hb13.below L12.size (fun k hk e => by subst e; omega))
  clear B12 P12 T12 U12 hO12 hD12 hb13 L12 la12 L11
  generalize (w12.setCell ⟨gT, 1, none⟩ (.int .u32 16909060)).setCell ⟨gT, 3, none⟩ (.int .u16 n) = w13 at *
  have kP := block_cell P13.out
  have kT := block_cell U13.out
  go_wp2_with fail
  refine (tm_rewrite src server x0 x1 16909060 server n x1 _ _ _ z w13 (hT.below L13 hT.pos) hU hO13.rd hD13.rd hsr hse (by omega) hse ⟨hn0, hn1⟩ hx1).mono ?_
  rintro e w14 ⟨l14, s7, t7, s8, u8, t8, zq, rfl, hUq, hOq, hDq⟩
  have la15 := later_alloc' w14 (.cells #[.int .u8 0, .int .u16 0, .bool false, .int .u8 0, .int .u8 17, .int .u32 16909060, .int .u32 server, .slice s7 0 t7, .slice s8 u8 t8] 40)
  have Q15 := hide (heap_alloc_new w14 (.cells #[.int .u8 0, .int .u16 0, .bool false, .int .u8 0, .int .u8 17, .int .u32 16909060, .int .u32 server, .slice s7 0 t7, .slice s8 u8 t8] 40))
  have m15 := l14.trans la15
  have L15 : Later w (w14.alloc (.cells #[.int .u8 0, .int .u16 0, .bool false, .int .u8 0, .int .u8 17, .int .u32 16909060, .int .u32 server, .slice s7 0 t7, .slice s8 u8 t8] 40)) := Later.trans L13 m15
  have T15 := hide (later_keep m15 T13.out)
  have U15 := hide (later_keep m15 U13.out)
  have hOq15 := hOq.later la15
  have hDq15 := hDq.later la15
  clear kP kT P13 T13 U13 hO13 hD13 hOq hDq l14 la15 m15 L13 hU
  go_upto_region 13 with fail
  generalize w14.alloc _ = w15 at *
  generalize w14.heap.size = gQ at *
  have kQ := block_cell Q15.out
  go_wp2_with fail
  refine (tm_of 16909060 server n x1 _ _ _ zq w15 (hT.later L15) hUq hDq15.rd (by omega) hse).mono ?_
  rintro e w16 ⟨l16, rfl⟩
  have la17 := later_alloc' w16 (.cells #[.int .u8 17, .int .u32 16909060, .int .u32 server, .int .u16 n, .int .u16 x1] 46)
  have S17 := hide (heap_alloc_new w16 (.cells #[.int .u8 17, .int .u32 16909060, .int .u32 server, .int .u16 n, .int .u16 x1] 46))
  have m17 := l16.trans la17
  have L17 := L15.trans m17
  have Q17 := hide (later_keep m17 Q15.out)
  have T17 := hide (later_keep m17 T15.out)
  have U17 := hide (later_keep m17 U15.out)
  have hDq17 := hDq15.later m17
  clear kQ Q15 T15 U15 hOq15 hDq15 l16 la17 m17 L15
  go_upto_region 14 with fail
  generalize w16.alloc _ = w17 at *
  generalize w16.heap.size = gS at *
  have kQ := block_cell Q17.out
  go_wp2_with fail
  refine (tm_parse 16909060 server n x1 _ _ _ zq w17 hUq hDq17.rd (by omega) hse).mono ?_
  rintro e w18 ⟨l18, k0, k2, k6, ad, ld, cd, rfl, hDd⟩
  have la19 := later_alloc' w18 (.cells #[.int .u16 k0, .int .u16 k2, .bool k6, .slice ad ld cd] 44)
  have D19 := hide (heap_alloc_new w18 (.cells #[.int .u16 k0, .int .u16 k2, .bool k6, .slice ad ld cd] 44))
  have m19 := l18.trans la19
  have L19 := L17.trans m19
  have T19 := hide (later_keep m19 T17.out)
  have U19 := hide (later_keep m19 U17.out)
  have S19 := hide (later_keep m19 S17.out)
  have hDd19 := hDd.later la19
  clear kQ Q17 T17 U17 S17 hDq17 hUq hDd l18 la19 m19 L17
  go_upto_region 15 with fail
  generalize w18.alloc _ = w19 at *
  generalize w18.heap.size = gD at *
  have kS := block_cell S19.out
  have kU := block_cell U19.out
  have kD := block_cell D19.out
  have qc : (convert 38 9 (.slice ad ld cd)).run Tryd.prog w19 = .ok (.string (strOfNums [97, 115, 107])) w19 := conv_rd 38 9 5 Tryd.underlying38 Tryd.underlying5 Tryd.underlying9 hDd19.rd
  rw [show strOfNums [97, 115, 107] = { data := #[97, 115, 107] } from by rfl] at qc
  go_upto_region 17 with fail
  clear kU kD qc U19 D19 hDd19
  go_wp2_with fail
  refine (tm_build server 16909060 x1 n (.slice none 0 0) [] w19 hse (by omega) hx1 ⟨hn0, hn1⟩ Mt.By.nil (rd_zero _) (by simp)).mono ?_
  rintro e w20 ⟨l20, a7, c7, a8, m8, c8, zb, rfl, hUb, hOb0, hDb0⟩
  have la21 := later_alloc' w20 (.cells #[.int .u8 0, .int .u16 0, .bool false, .int .u8 0, .int .u8 17, .int .u32 server, .int .u32 16909060, .slice a7 0 c7, .slice a8 m8 c8] 40)
  have B21 := hide (heap_alloc_new w20 (.cells #[.int .u8 0, .int .u16 0, .bool false, .int .u8 0, .int .u8 17, .int .u32 server, .int .u32 16909060, .slice a7 0 c7, .slice a8 m8 c8] 40))
  have m21 := l20.trans la21
  have L21 := L19.trans m21
  have T21 := hide (later_keep m21 T19.out)
  have hOb := hOb0.later la21
  have hDb := hDb0.later la21
  clear kS T19 S19 hOb0 hDb0 l20 la21 m21 L19
  go_upto_region 18 with fail
  generalize w20.alloc _ = WB at *
  generalize w20.heap.size = gb at *
  have hTB : Tb WB := hT.later L21
  go_cut [28, 29] (fun q x wx => MQ src server x0 x1 WB q x wx)
  case first =>
    refine anyT_begin (R := But (fun b => WB.heap.size ≤ b)) 10 rfl (by kernel_rfl) ?_
    have hd : Later WB WB.drew := Later.drew WB
    have pd := later_keep hd B21.out
    have td := later_keep hd T21.out
    have hgb : gb < WB.heap.size := (Array.getElem?_eq_some_iff.1 B21.out).1
    have hgO : gO < WB.heap.size := (Array.getElem?_eq_some_iff.1 T21.out).1
    generalize WB.drew = Wd at *
    have ha1 : ∀ v1, But (fun b => WB.heap.size ≤ b) Wd v1 → ∀ i, v1.cell? ⟨gb, i, none⟩ = (#[.int .u8 0, .int .u16 0, .bool false, .int .u8 0, .int .u8 17, .int .u32 server, .int .u32 16909060, .slice a7 0 c7, .slice a8 m8 c8] : Array Value)[i]? := fun v1 h => block_cell ((h.block gb (Array.getElem?_eq_some_iff.1 pd).1 (by omega)).trans pd)
    have ha2 : ∀ v1, But (fun b => WB.heap.size ≤ b) Wd v1 → ∀ i, v1.cell? ⟨gO, i, none⟩ = (#[.int .u8 17, .int .u32 src, .int .u32 server, .int .u16 x0, .int .u16 x1] : Array Value)[i]? := fun v1 h => block_cell ((h.block gO (Array.getElem?_eq_some_iff.1 td).1 (by omega)).trans td)
    have hz0 : WB.heap.size ≤ Wd.heap.size := hd.size
    refine anyT_val (But.pre _) 0 rfl (by kernel_rfl) (by kernel_rfl) (by kernel_rfl) (fun _ _ _ _ h => h) rfl ?_; apply Exists.intro; refine ⟨fun v1 hv1 => ?_, ?_⟩; (· (go_simp; rfl)); simp only [Act.put, List.setIfInBounds_toArray, List.set_cons_zero, List.set_cons_succ]
    refine anyT_val (But.pre _) 1 rfl (by kernel_rfl) (by kernel_rfl) (by kernel_rfl) (fun _ _ _ _ h => h) rfl ?_; apply Exists.intro; refine ⟨fun v1 hv1 => ?_, ?_⟩; (· (go_simp; rfl)); simp only [Act.put, List.setIfInBounds_toArray, List.set_cons_zero, List.set_cons_succ]
    clear ha1 ha2 pd td
    refine anyT_two 2 7 rfl rfl (by kernel_rfl) rfl rfl ?_ ?_
    · skip
      refine wp_enter 13 #[.agg #[.int .u8 17, .int .u32 src, .int .u32 server, .int .u16 x0, .int .u16 x1]] (by go_simp) ((reverse_any 17 src server x0 x1 Wd).mono ?_); rintro e W3 ⟨rfl, lR⟩; refine ⟨But.of lR, ?_⟩; simp only [Act.put, List.setIfInBounds_toArray, List.set_cons_zero, List.set_cons_succ]
      have h3 : Later WB W3 := hd.trans lR
      refine anyT_two 3 7 rfl rfl (by kernel_rfl) rfl rfl ?_ ?_
      · skip
        refine wp_enter 11 #[.agg #[.int .u8 0, .int .u16 0, .bool false, .int .u8 0, .int .u8 17, .int .u32 server, .int .u32 16909060, .slice a7 0 c7, .slice a8 m8 c8], .agg #[.int .u8 17, .int .u32 server, .int .u32 src, .int .u16 x1, .int .u16 x0]] (by go_simp) ((tm_rewrite server 16909060 x1 n server src x1 x0 _ _ [] zb W3 (hTB.later h3) hUb ((hOb.later h3).rd) ((hDb.later h3).rd) hse (by omega) hse hsr hx1 hx0).mono ?_); rintro e W4 ⟨lQ, e7, f7, e8, k8, f8, zh, rfl, hUh, hOh, hDh⟩; refine ⟨But.of lQ, ?_⟩; simp only [Act.put, List.setIfInBounds_toArray, List.set_cons_zero, List.set_cons_succ]
        have h4 : Later WB W4 := h3.trans lQ
        refine anyT_val (But.pre _) 4 rfl (by kernel_rfl) (by kernel_rfl) (by kernel_rfl) (fun _ _ _ _ h => h) rfl ?_; apply Exists.intro; refine ⟨fun v1 hv1 => ?_, ?_⟩; (· (go_simp; rfl)); simp only [Act.put, List.setIfInBounds_toArray, List.set_cons_zero, List.set_cons_succ]
        refine anyT_val (But.pre _) 5 rfl (by kernel_rfl) (by kernel_rfl) (by kernel_rfl) (fun _ _ _ _ h => h) rfl ?_; apply Exists.intro; refine ⟨fun v1 hv1 => ?_, ?_⟩; (· (go_simp; rfl)); simp only [Act.put, List.setIfInBounds_toArray, List.set_cons_zero, List.set_cons_succ]
        refine anyT_val (But.pre _) 6 rfl (by kernel_rfl) (by kernel_rfl) (by kernel_rfl) (fun _ _ _ _ h => h) rfl ?_; apply Exists.intro; refine ⟨fun v1 hv1 => ?_, ?_⟩; (· (go_simp; rfl)); simp only [Act.put, List.setIfInBounds_toArray, List.set_cons_zero, List.set_cons_succ]
        refine anyT_one 7 rfl (by kernel_rfl) rfl ?_
        unfold Oper.wp; go_simp; have lA := later_alloc' W4 (.cells #[.int .u8 0, .int .u16 0, .bool false, .int .u8 0, .int .u8 0, .int .u32 0, .int .u32 0, .slice none 0 0, .slice none 0 0] 40); have gA := heap_alloc_new W4 (.cells #[.int .u8 0, .int .u16 0, .bool false, .int .u8 0, .int .u8 0, .int .u32 0, .int .u32 0, .slice none 0 0, .slice none 0 0] 40); have hgA : WB.heap.size ≤ W4.heap.size := h4.size; refine ⟨But.of lA, ?_⟩; generalize W4.alloc (.cells #[.int .u8 0, .int .u16 0, .bool false, .int .u8 0, .int .u8 0, .int .u32 0, .int .u32 0, .slice none 0 0, .slice none 0 0] 40) = W5 at *; generalize W4.heap.size = g at *
        have h5 : Later WB W5 := h4.trans lA
        have kg := block_cell gA; have fg := block_frozen gA; refine anyT_one 8 rfl (by kernel_rfl) rfl ?_; unfold Oper.wp; go_simp; generalize hV : (((((((((W5.setCell ⟨g, 0, none⟩ _).setCell ⟨g, 1, none⟩ _).setCell ⟨g, 2, none⟩ _).setCell ⟨g, 3, none⟩ _).setCell ⟨g, 4, none⟩ _).setCell ⟨g, 5, none⟩ _).setCell ⟨g, 6, none⟩ _).setCell ⟨g, 7, none⟩ _).setCell ⟨g, 8, none⟩ _) = V; have hV8 : V = putRow W5 g 0 [.int .u8 0, .int .u16 0, .bool false, .int .u8 0, .int .u8 17, .int .u32 server, .int .u32 src, .slice e7 0 f7, .slice e8 k8 f8] := hV.symm; have hbV : But (fun b => b = g) W5 V := by { rw [hV8]; exact putRow_but (E := fun b => b = g) (n := g) rfl _ _ _ _ (But.refl _ _) }; have pV := putRow_all [Value.int .u8 0, .int .u16 0, .bool false, .int .u8 0, .int .u8 17, .int .u32 server, .int .u32 src, .slice e7 0 f7, .slice e8 k8 f8] gA rfl; rw [← hV8] at pV; clear hV hV8 kg fg; refine ⟨hbV.wk (fun k e => by { subst e; exact hgA }), ?_⟩; refine anyT_one 9 rfl (by kernel_rfl) rfl ?_; unfold Oper.wp; go_simp; refine ⟨But.refl _ _, ?_⟩; refine anyT_done (by kernel_rfl) ?_; have hfin : Below WB.heap.size WB V := Below.trans h5 (hbV.below (h5).size (fun k hk e => by omega))
        go_wp2_with fail
        go_meet
        exact ⟨_, _, _, _, _, _, zh, rfl, rfl, pV, hUh, ((hDh.later lA).aside gA (by decide) hbV).rd, hfin⟩
      · skip
        unfold Oper.wp; go_simp; have lA := later_alloc' W3 (.cells #[.int .u8 0, .int .u16 0, .bool false, .int .u8 0, .int .u8 0, .int .u32 0, .int .u32 0, .slice none 0 0, .slice none 0 0] 40); have gA := heap_alloc_new W3 (.cells #[.int .u8 0, .int .u16 0, .bool false, .int .u8 0, .int .u8 0, .int .u32 0, .int .u32 0, .slice none 0 0, .slice none 0 0] 40); have hgA : WB.heap.size ≤ W3.heap.size := h3.size; refine ⟨But.of lA, ?_⟩; generalize W3.alloc (.cells #[.int .u8 0, .int .u16 0, .bool false, .int .u8 0, .int .u8 0, .int .u32 0, .int .u32 0, .slice none 0 0, .slice none 0 0] 40) = W4 at *; generalize W3.heap.size = g at *
        have h4 : Later WB W4 := h3.trans lA
        refine anyT_one 3 rfl (by kernel_rfl) rfl ?_
        refine wp_enter 11 #[.agg #[.int .u8 0, .int .u16 0, .bool false, .int .u8 0, .int .u8 17, .int .u32 server, .int .u32 16909060, .slice a7 0 c7, .slice a8 m8 c8], .agg #[.int .u8 17, .int .u32 server, .int .u32 src, .int .u16 x1, .int .u16 x0]] (by go_simp) ((tm_rewrite server 16909060 x1 n server src x1 x0 _ _ [] zb W4 (hTB.later h4) hUb ((hOb.later h4).rd) ((hDb.later h4).rd) hse (by omega) hse hsr hx1 hx0).mono ?_); rintro e W5 ⟨lQ, e7, f7, e8, k8, f8, zh, rfl, hUh, hOh, hDh⟩; refine ⟨But.of lQ, ?_⟩; simp only [Act.put, List.setIfInBounds_toArray, List.set_cons_zero, List.set_cons_succ]
        have h5 : Later WB W5 := h4.trans lQ
        have gA5 := later_keep lQ gA
        refine anyT_val (But.pre _) 4 rfl (by kernel_rfl) (by kernel_rfl) (by kernel_rfl) (fun _ _ _ _ h => h) rfl ?_; apply Exists.intro; refine ⟨fun v1 hv1 => ?_, ?_⟩; (· (go_simp; rfl)); simp only [Act.put, List.setIfInBounds_toArray, List.set_cons_zero, List.set_cons_succ]
        refine anyT_val (But.pre _) 5 rfl (by kernel_rfl) (by kernel_rfl) (by kernel_rfl) (fun _ _ _ _ h => h) rfl ?_; apply Exists.intro; refine ⟨fun v1 hv1 => ?_, ?_⟩; (· (go_simp; rfl)); simp only [Act.put, List.setIfInBounds_toArray, List.set_cons_zero, List.set_cons_succ]
        refine anyT_val (But.pre _) 6 rfl (by kernel_rfl) (by kernel_rfl) (by kernel_rfl) (fun _ _ _ _ h => h) rfl ?_; apply Exists.intro; refine ⟨fun v1 hv1 => ?_, ?_⟩; (· (go_simp; rfl)); simp only [Act.put, List.setIfInBounds_toArray, List.set_cons_zero, List.set_cons_succ]
        have kg := block_cell gA5; have fg := block_frozen gA5; refine anyT_one 8 rfl (by kernel_rfl) rfl ?_; unfold Oper.wp; go_simp; generalize hV : (((((((((W5.setCell ⟨g, 0, none⟩ _).setCell ⟨g, 1, none⟩ _).setCell ⟨g, 2, none⟩ _).setCell ⟨g, 3, none⟩ _).setCell ⟨g, 4, none⟩ _).setCell ⟨g, 5, none⟩ _).setCell ⟨g, 6, none⟩ _).setCell ⟨g, 7, none⟩ _).setCell ⟨g, 8, none⟩ _) = V; have hV8 : V = putRow W5 g 0 [.int .u8 0, .int .u16 0, .bool false, .int .u8 0, .int .u8 17, .int .u32 server, .int .u32 src, .slice e7 0 f7, .slice e8 k8 f8] := hV.symm; have hbV : But (fun b => b = g) W5 V := by { rw [hV8]; exact putRow_but (E := fun b => b = g) (n := g) rfl _ _ _ _ (But.refl _ _) }; have pV := putRow_all [Value.int .u8 0, .int .u16 0, .bool false, .int .u8 0, .int .u8 17, .int .u32 server, .int .u32 src, .slice e7 0 f7, .slice e8 k8 f8] gA5 rfl; rw [← hV8] at pV; clear hV hV8 kg fg; refine ⟨hbV.wk (fun k e => by { subst e; exact hgA }), ?_⟩; refine anyT_one 9 rfl (by kernel_rfl) rfl ?_; unfold Oper.wp; go_simp; refine ⟨But.refl _ _, ?_⟩; refine anyT_done (by kernel_rfl) ?_; have hfin : Below WB.heap.size WB V := Below.trans h5 (hbV.below (h5).size (fun k hk e => by omega))
        go_wp2_with fail
        go_meet
        exact ⟨_, _, _, _, _, _, zh, rfl, rfl, pV, hUh, (hDh.aside gA5 (by decide) hbV).rd, hfin⟩
    · skip
      unfold Oper.wp; go_simp; have lA := later_alloc' Wd (.cells #[.int .u8 0, .int .u16 0, .bool false, .int .u8 0, .int .u8 0, .int .u32 0, .int .u32 0, .slice none 0 0, .slice none 0 0] 40); have gA := heap_alloc_new Wd (.cells #[.int .u8 0, .int .u16 0, .bool false, .int .u8 0, .int .u8 0, .int .u32 0, .int .u32 0, .slice none 0 0, .slice none 0 0] 40); have hgA : WB.heap.size ≤ Wd.heap.size := hz0; refine ⟨But.of lA, ?_⟩; generalize Wd.alloc (.cells #[.int .u8 0, .int .u16 0, .bool false, .int .u8 0, .int .u8 0, .int .u32 0, .int .u32 0, .slice none 0 0, .slice none 0 0] 40) = W3 at *; generalize Wd.heap.size = g at *
      have h3 : Later WB W3 := hd.trans lA
      refine anyT_one 2 rfl (by kernel_rfl) rfl ?_
      refine wp_enter 13 #[.agg #[.int .u8 17, .int .u32 src, .int .u32 server, .int .u16 x0, .int .u16 x1]] (by go_simp) ((reverse_any 17 src server x0 x1 W3).mono ?_); rintro e W4 ⟨rfl, lR⟩; refine ⟨But.of lR, ?_⟩; simp only [Act.put, List.setIfInBounds_toArray, List.set_cons_zero, List.set_cons_succ]
      have h4 : Later WB W4 := h3.trans lR
      refine anyT_one 3 rfl (by kernel_rfl) rfl ?_
      refine wp_enter 11 #[.agg #[.int .u8 0, .int .u16 0, .bool false, .int .u8 0, .int .u8 17, .int .u32 server, .int .u32 16909060, .slice a7 0 c7, .slice a8 m8 c8], .agg #[.int .u8 17, .int .u32 server, .int .u32 src, .int .u16 x1, .int .u16 x0]] (by go_simp) ((tm_rewrite server 16909060 x1 n server src x1 x0 _ _ [] zb W4 (hTB.later h4) hUb ((hOb.later h4).rd) ((hDb.later h4).rd) hse (by omega) hse hsr hx1 hx0).mono ?_); rintro e W5 ⟨lQ, e7, f7, e8, k8, f8, zh, rfl, hUh, hOh, hDh⟩; refine ⟨But.of lQ, ?_⟩; simp only [Act.put, List.setIfInBounds_toArray, List.set_cons_zero, List.set_cons_succ]
      have h5 : Later WB W5 := h4.trans lQ
      have gA5 := later_keep (Later.trans lR lQ) gA
      refine anyT_val (But.pre _) 4 rfl (by kernel_rfl) (by kernel_rfl) (by kernel_rfl) (fun _ _ _ _ h => h) rfl ?_; apply Exists.intro; refine ⟨fun v1 hv1 => ?_, ?_⟩; (· (go_simp; rfl)); simp only [Act.put, List.setIfInBounds_toArray, List.set_cons_zero, List.set_cons_succ]
      refine anyT_val (But.pre _) 5 rfl (by kernel_rfl) (by kernel_rfl) (by kernel_rfl) (fun _ _ _ _ h => h) rfl ?_; apply Exists.intro; refine ⟨fun v1 hv1 => ?_, ?_⟩; (· (go_simp; rfl)); simp only [Act.put, List.setIfInBounds_toArray, List.set_cons_zero, List.set_cons_succ]
      refine anyT_val (But.pre _) 6 rfl (by kernel_rfl) (by kernel_rfl) (by kernel_rfl) (fun _ _ _ _ h => h) rfl ?_; apply Exists.intro; refine ⟨fun v1 hv1 => ?_, ?_⟩; (· (go_simp; rfl)); simp only [Act.put, List.setIfInBounds_toArray, List.set_cons_zero, List.set_cons_succ]
      have kg := block_cell gA5; have fg := block_frozen gA5; refine anyT_one 8 rfl (by kernel_rfl) rfl ?_; unfold Oper.wp; go_simp; generalize hV : (((((((((W5.setCell ⟨g, 0, none⟩ _).setCell ⟨g, 1, none⟩ _).setCell ⟨g, 2, none⟩ _).setCell ⟨g, 3, none⟩ _).setCell ⟨g, 4, none⟩ _).setCell ⟨g, 5, none⟩ _).setCell ⟨g, 6, none⟩ _).setCell ⟨g, 7, none⟩ _).setCell ⟨g, 8, none⟩ _) = V; have hV8 : V = putRow W5 g 0 [.int .u8 0, .int .u16 0, .bool false, .int .u8 0, .int .u8 17, .int .u32 server, .int .u32 src, .slice e7 0 f7, .slice e8 k8 f8] := hV.symm; have hbV : But (fun b => b = g) W5 V := by { rw [hV8]; exact putRow_but (E := fun b => b = g) (n := g) rfl _ _ _ _ (But.refl _ _) }; have pV := putRow_all [Value.int .u8 0, .int .u16 0, .bool false, .int .u8 0, .int .u8 17, .int .u32 server, .int .u32 src, .slice e7 0 f7, .slice e8 k8 f8] gA5 rfl; rw [← hV8] at pV; clear hV hV8 kg fg; refine ⟨hbV.wk (fun k e => by { subst e; exact hgA }), ?_⟩; refine anyT_one 9 rfl (by kernel_rfl) rfl ?_; unfold Oper.wp; go_simp; refine ⟨But.refl _ _, ?_⟩; refine anyT_done (by kernel_rfl) ?_; have hfin : Below WB.heap.size WB V := Below.trans h5 (hbV.below (h5).size (fun k hk e => by omega))
      go_wp2_with fail
      go_meet
      exact ⟨_, _, _, _, _, _, zh, rfl, rfl, pV, hUh, (hDh.aside gA5 (by decide) hbV).rd, hfin⟩
  case rest =>
    obtain ⟨gH, e7, f7, e8, k8, f8, zh, rfl, rfl, pH, hUh, hDh, lH⟩ := hcut
    generalize hwc : wc = w22 at *
    clear hwc
    have L22 := L21.trans lH
    have T22 := hide (later_keep lH T21.out)
    clear hUb hOb hDb B21 T21 hTB L21 lH
    have kH := block_cell pH
    go_wp2_with fail
    refine (tm_of server src x1 x0 _ _ _ zh w22 (hT.later L22) hUh hDh hse hsr).mono ?_
    rintro e w23 ⟨l23, rfl⟩
    have la24 := later_alloc' w23 (.cells #[.int .u8 17, .int .u32 server, .int .u32 src, .int .u16 x1, .int .u16 x0] 46)
    have Y24 := hide (heap_alloc_new w23 (.cells #[.int .u8 17, .int .u32 server, .int .u32 src, .int .u16 x1, .int .u16 x0] 46))
    have m24 := l23.trans la24
    have L24 := L22.trans m24
    have T24 := hide (later_keep m24 T22.out)
    clear kH pH hUh hDh T22 l23 la24 m24 L22
    go_upto_region 20 with fail
    generalize w23.alloc _ = w24 at *
    generalize w23.heap.size = gY at *
    refine anyR_begin (R := Later) Later.pre Later.drew 23 rfl (by kernel_rfl) (fun V0 hV0 => ?_)
    have qY : ∀ v, Later V0 v → ∀ j, v.cell? ⟨gY, j, none⟩ = (#[.int .u8 17, .int .u32 server, .int .u32 src, .int .u16 x1, .int .u16 x0] : Array Value)[j]? := fun v hv => block_cell (later_keep (hV0.trans hv) Y24.out)
    have qT : ∀ v, Later V0 v → ∀ j, v.cell? ⟨gO, j, none⟩ = (#[.int .u8 17, .int .u32 src, .int .u32 server, .int .u16 x0, .int .u16 x1] : Array Value)[j]? := fun v hv => block_cell (later_keep (hV0.trans hv) T24.out)
    refine anyR_val Later.pre 0 rfl (by kernel_rfl) (by kernel_rfl) (by kernel_rfl) (fun _ _ _ _ h => h) rfl ?_; apply Exists.intro; refine ⟨fun v1 hv1 => ?_, ?_⟩; (· (go_simp; rfl)); simp only [Act.put, List.setIfInBounds_toArray, List.set_cons_zero, List.set_cons_succ]
    refine anyR_val Later.pre 1 rfl (by kernel_rfl) (by kernel_rfl) (by kernel_rfl) (fun _ _ _ _ h => h) rfl ?_; apply Exists.intro; refine ⟨fun v1 hv1 => ?_, ?_⟩; (· (go_simp; rfl)); simp only [Act.put, List.setIfInBounds_toArray, List.set_cons_zero, List.set_cons_succ]
    refine anyR_val Later.pre 2 rfl (by kernel_rfl) (by kernel_rfl) (by kernel_rfl) (fun _ _ _ _ h => h) rfl ?_; apply Exists.intro; refine ⟨fun v1 hv1 => ?_, ?_⟩; (· (go_simp; rfl)); simp only [Act.put, List.setIfInBounds_toArray, List.set_cons_zero, List.set_cons_succ]
    refine anyR_valG Later.pre 3 rfl (by kernel_rfl) (by kernel_rfl) (by kernel_rfl) (fun _ _ _ _ h => h) (by rfl) ?_; apply Exists.intro; refine ⟨fun v1 hv1 => ?_, ?_⟩; (· (go_simp; rfl)); simp only [Act.put, List.setIfInBounds_toArray, List.set_cons_zero, List.set_cons_succ]
    refine anyR_valG Later.pre 4 rfl (by kernel_rfl) (by kernel_rfl) (by kernel_rfl) (fun _ _ _ _ h => h) (by rfl) ?_; apply Exists.intro; refine ⟨fun v1 hv1 => ?_, ?_⟩; (· (go_simp; rfl)); simp only [Act.put, List.setIfInBounds_toArray, List.set_cons_zero, List.set_cons_succ]
    refine anyR_val Later.pre 5 rfl (by kernel_rfl) (by kernel_rfl) (by kernel_rfl) (fun _ _ _ _ h => h) rfl ?_; apply Exists.intro; refine ⟨fun v1 hv1 => ?_, ?_⟩; (· (go_simp; rfl)); simp only [Act.put, List.setIfInBounds_toArray, List.set_cons_zero, List.set_cons_succ]
    refine anyR_val Later.pre 6 rfl (by kernel_rfl) (by kernel_rfl) (by kernel_rfl) (fun _ _ _ _ h => h) rfl ?_; apply Exists.intro; refine ⟨fun v1 hv1 => ?_, ?_⟩; (· (go_simp; rfl)); simp only [Act.put, List.setIfInBounds_toArray, List.set_cons_zero, List.set_cons_succ]
    refine anyR_valG Later.pre 7 rfl (by kernel_rfl) (by kernel_rfl) (by kernel_rfl) (fun _ _ _ _ h => h) (by rfl) ?_; apply Exists.intro; refine ⟨fun v1 hv1 => ?_, ?_⟩; (· (go_simp; rfl)); simp only [Act.put, List.setIfInBounds_toArray, List.set_cons_zero, List.set_cons_succ]
    refine anyR_valG Later.pre 8 rfl (by kernel_rfl) (by kernel_rfl) (by kernel_rfl) (fun _ _ _ _ h => h) (by rfl) ?_; apply Exists.intro; refine ⟨fun v1 hv1 => ?_, ?_⟩; (· (go_simp; rfl)); simp only [Act.put, List.setIfInBounds_toArray, List.set_cons_zero, List.set_cons_succ]
    refine anyR_val Later.pre 9 rfl (by kernel_rfl) (by kernel_rfl) (by kernel_rfl) (fun _ _ _ _ h => h) rfl ?_; apply Exists.intro; refine ⟨fun v1 hv1 => ?_, ?_⟩; (· (go_simp; rfl)); simp only [Act.put, List.setIfInBounds_toArray, List.set_cons_zero, List.set_cons_succ]
    refine anyR_val Later.pre 10 rfl (by kernel_rfl) (by kernel_rfl) (by kernel_rfl) (fun _ _ _ _ h => h) rfl ?_; apply Exists.intro; refine ⟨fun v1 hv1 => ?_, ?_⟩; (· (go_simp; rfl)); simp only [Act.put, List.setIfInBounds_toArray, List.set_cons_zero, List.set_cons_succ]
    refine anyR_valG Later.pre 11 rfl (by kernel_rfl) (by kernel_rfl) (by kernel_rfl) (fun _ _ _ _ h => h) (by rfl) ?_; apply Exists.intro; refine ⟨fun v1 hv1 => ?_, ?_⟩; (· (go_simp; rfl)); simp only [Act.put, List.setIfInBounds_toArray, List.set_cons_zero, List.set_cons_succ]
    refine anyR_valG Later.pre 12 rfl (by kernel_rfl) (by kernel_rfl) (by kernel_rfl) (fun _ _ _ _ h => h) (by rfl) ?_; apply Exists.intro; refine ⟨fun v1 hv1 => ?_, ?_⟩; (· (go_simp; rfl)); simp only [Act.put, List.setIfInBounds_toArray, List.set_cons_zero, List.set_cons_succ]
    refine anyR_takeG Later.pre 13 (.agg #[.int .u8 17, .int .u32 server, .int .u32 src, .int .u16 x1, .int .u16 x0]) rfl (by kernel_rfl) (by kernel_rfl) (by kernel_rfl) (fun _ _ _ h => h) (by rfl) (fun v1 hv1 => goes_call 13 #[.agg #[.int .u8 17, .int .u32 src, .int .u32 server, .int .u16 x0, .int .u16 x1]] (by go_simp) (reverse_any 17 src server x0 x1 v1)) ?_
    simp only [Act.put, List.setIfInBounds_toArray, List.set_cons_zero, List.set_cons_succ]
    refine anyR_valG Later.pre 14 rfl (by kernel_rfl) (by kernel_rfl) (by kernel_rfl) (fun _ _ _ _ h => h) (by rfl) ?_; apply Exists.intro; refine ⟨fun v1 hv1 => ?_, ?_⟩; (· (go_simp; rfl)); simp only [Act.put, List.setIfInBounds_toArray, List.set_cons_zero, List.set_cons_succ]
    refine anyR_val Later.pre 15 rfl (by kernel_rfl) (by kernel_rfl) (by kernel_rfl) (fun _ _ _ _ h => h) rfl ?_; apply Exists.intro; refine ⟨fun v1 hv1 => ?_, ?_⟩; (· (go_simp; rfl)); simp only [Act.put, List.setIfInBounds_toArray, List.set_cons_zero, List.set_cons_succ]
    refine anyR_val Later.pre 16 rfl (by kernel_rfl) (by kernel_rfl) (by kernel_rfl) (fun _ _ _ _ h => h) rfl ?_; apply Exists.intro; refine ⟨fun v1 hv1 => ?_, ?_⟩; (· (go_simp; rfl)); simp only [Act.put, List.setIfInBounds_toArray, List.set_cons_zero, List.set_cons_succ]
    refine anyR_valG Later.pre 17 rfl (by kernel_rfl) (by kernel_rfl) (by kernel_rfl) (fun _ _ _ _ h => h) (by rfl) ?_; apply Exists.intro; refine ⟨fun v1 hv1 => ?_, ?_⟩; (· (go_simp; rfl)); simp only [Act.put, List.setIfInBounds_toArray, List.set_cons_zero, List.set_cons_succ]
    refine anyR_valG Later.pre 18 rfl (by kernel_rfl) (by kernel_rfl) (by kernel_rfl) (fun _ _ _ _ h => h) (by rfl) ?_; apply Exists.intro; refine ⟨fun v1 hv1 => ?_, ?_⟩; (· (go_simp; rfl)); simp only [Act.put, List.setIfInBounds_toArray, List.set_cons_zero, List.set_cons_succ]
    refine anyR_valG Later.pre 19 rfl (by kernel_rfl) (by kernel_rfl) (by kernel_rfl) (fun _ _ _ _ h => h) (by rfl) ?_; apply Exists.intro; refine ⟨fun v1 hv1 => ?_, ?_⟩; (· (go_simp; rfl)); simp only [Act.put, List.setIfInBounds_toArray, List.set_cons_zero, List.set_cons_succ]
    refine anyR_valG Later.pre 20 rfl (by kernel_rfl) (by kernel_rfl) (by kernel_rfl) (fun _ _ _ _ h => h) (by rfl) ?_; apply Exists.intro; refine ⟨fun v1 hv1 => ?_, ?_⟩; (· (go_simp; rfl)); simp only [Act.put, List.setIfInBounds_toArray, List.set_cons_zero, List.set_cons_succ]
    refine anyR_val Later.pre 21 rfl (by kernel_rfl) (by kernel_rfl) (by kernel_rfl) (fun _ _ _ _ h => h) rfl ?_; apply Exists.intro; refine ⟨fun v1 hv1 => ?_, ?_⟩; (· (go_simp; rfl)); simp only [Act.put, List.setIfInBounds_toArray, List.set_cons_zero, List.set_cons_succ]
    refine anyR_val Later.pre 22 rfl (by kernel_rfl) (by kernel_rfl) (by kernel_rfl) (fun _ _ _ _ h => h) rfl ?_; apply Exists.intro; refine ⟨fun v1 hv1 => ?_, ?_⟩; (· (go_simp; rfl)); simp only [Act.put, List.setIfInBounds_toArray, List.set_cons_zero, List.set_cons_succ]
    clear qY qT
    refine anyR_done (by kernel_rfl) (fun V9 hV9 => ?_)
    go_wp2_with fail
    go_ret
    exact ⟨rfl, L24.trans (hV0.trans hV9)⟩
end Go.Proofs.YtomdccljoaieeaaDoor
