/- Regions that draw their order: an operation that hands back one value in every world that may follow (a call that makes memory too) is taken first; what is left is taken in every order. -/
import Derived.Deep.Quiet
import Derived.Below
import Derived.WalkKit
import Derived.Shelf.Abstract
import Derived.KernelRfl
namespace Go.Proofs.YtohflohdbkamnaaGreatDoor
open Go.RowKit Go.Shelf
set_option maxRecDepth 100000
set_option linter.unusedVariables false

section
variable {P : Program} {ops : Array Oper} {Q : Exit → Act → World → Prop} {md : Region.Mode} {R : World → World → Prop}

/-- What an operation, carried out in w, is to yield: the value v, in a world that may follow. -/
def goesTo (P : Program) (R : World → World → Prop) (w : World) (v : Value) : Result Next → Prop
  | .ok (.value u) w' => R w w' ∧ u = v
  | .ok .skip w' => R w w' ∧ v = undef
  | .ok (.enter f args) w' => w' = w ∧ Calls P f args w (fun e w'' => e = .returned v ∧ R w w'')
  | _ => False

/-- In every world that follows w the operation yields v. -/
def GivesR (P : Program) (ops : Array Oper) (R : World → World → Prop) (o : Oper) (v : Value) (a : Act) (w : World) : Prop :=
  (Region.wanted o (yielded ops a.tmps) = true ∧ ∀ w', R w w' → goesTo P R w' v ((execOp a.eval o).run P w')) ∨
  (Region.wanted o (yielded ops a.tmps) = false ∧ v = undef)

theorem GivesR.of_same {o : Oper} {v : Value} {a a' : Act} {w : World} (hy : GivesR P ops R o v a w) (he : execOp a'.eval o = execOp a.eval o)
    (hw : Region.wanted o (yielded ops a'.tmps) = Region.wanted o (yielded ops a.tmps)) : GivesR P ops R o v a' w := by
  unfold GivesR at *
  rw [he, hw]
  exact hy

theorem GivesR.up {o : Oper} {v : Value} {a : Act} {w w' : World} (ht : ∀ a b c, R a b → R b c → R a c) (hy : GivesR P ops R o v a w) (h : R w w') : GivesR P ops R o v a w' :=
  hy.imp (fun ⟨h1, h2⟩ => ⟨h1, fun w'' h' => h2 w'' (ht _ _ _ h h')⟩) id

theorem GivesR.wpOp {i : Nat} {o : Oper} {v : Value} {a : Act} {w : World} (hr : ∀ a, R a a) (hi : ops[i]? = some o) (hy : GivesR P ops R o v a w)
    {K : Act → World → Prop} {w' : World} (hS : R w w') (h : ∀ w'', R w' w'' → K (a.put o.dst v) w'') : Go.wpOp P ops Q i K a w' := by
  unfold Go.wpOp
  simp only [hi]
  rcases hy with ⟨hw, hv⟩ | ⟨hw, rfl⟩
  · simp only [hw, if_true]
    refine .inl ?_
    have h3 := hv w' hS
    unfold Oper.wp
    generalize (execOp a.eval o).run P w' = r at *
    cases r with
    | ok n w'' =>
      cases n <;> simp only [goesTo] at h3 <;> simp only [Oper.upon]
      case value u => obtain ⟨e1, rfl⟩ := h3; exact h _ e1
      case skip => obtain ⟨e1, rfl⟩ := h3; exact h _ e1
      case enter f args => obtain ⟨rfl, hc⟩ := h3; exact hc.mono fun e w3 ⟨he, hw3⟩ => by subst he; exact h _ hw3
    | halt x w'' => simp only [goesTo] at h3
  · simp only [hw, Bool.false_eq_true, if_false]; exact h _ (hr _)

/-- Whatever order is picked from here on, from every world that follows w; each operation leads into a world that follows. -/
def wpAnyR (P : Program) (md : Region.Mode) (ops : Array Oper) (Q : Exit → Act → World → Prop) (R : World → World → Prop) : Nat → Array Bool → Act → World → Prop
  | 0, listed, a, w => Region.ready md ops listed = [] ∧ ∀ w', R w w' → Q .normal a w'
  | fuel + 1, listed, a, w =>
    (Region.ready md ops listed = [] → ∀ w', R w w' → Q .normal a w') ∧
    ∀ i ∈ Region.ready md ops listed, ∀ w', R w w' → wpOp P ops Q i (fun a' w'' => R w' w'' ∧ wpAnyR P md ops Q R fuel (listed.setIfInBounds i true) a' w'') a w'

theorem wpAnyR_up (ht : ∀ a b c, R a b → R b c → R a c) {w w' : World} (h : R w w') : ∀ (fuel : Nat) (listed : Array Bool) (a : Act), wpAnyR P md ops Q R fuel listed a w → wpAnyR P md ops Q R fuel listed a w'
  | 0, _, _, H => ⟨H.1, fun w'' h' => H.2 w'' (ht _ _ _ h h')⟩
  | _ + 1, _, _, H => ⟨fun h0 w'' h' => H.1 h0 w'' (ht _ _ _ h h'), fun i hi w'' h' => H.2 i hi w'' (ht _ _ _ h h')⟩

theorem wpAny_of_R (hr : ∀ a, R a a) : ∀ (fuel : Nat) (listed : Array Bool) (a : Act) (w : World), wpAnyR P md ops Q R fuel listed a w → wpAny P md ops Q fuel listed a w
  | 0, _, _, _, h => ⟨h.1, h.2 _ (hr _)⟩
  | fuel + 1, _, _, _, h => ⟨fun h0 => h.1 h0 _ (hr _), fun i hi => wpOp_mono (fun a' w' h' => wpAny_of_R hr fuel _ a' w' h'.2) (h.2 i hi _ (hr _))⟩

theorem wpOp_putR {j : Nat} {oi oj : Oper} {v : Value} (hj : ops[j]? = some oj) (hap : oi.apart ops oj = true)
    (hsi : ∀ cs b, oi.op ≠ .select cs b) (hsj : ∀ cs b, oj.op ≠ .select cs b)
    (hQ : ∀ c a w, Q (.panic c) (a.put oi.dst v) w → Q (.panic c) a w) {K : Act → World → Prop} {a : Act} {w w₀ : World}
    (hy : GivesR P ops R oi v a w₀) (h : wpOp P ops Q j K (a.put oi.dst v) w) :
    wpOp P ops Q j (fun a' w' => GivesR P ops R oi v a' w₀ ∧ K (a'.put oi.dst v) w') a w := by
  obtain ⟨h1, h2, h3⟩ := Oper.apart_spec hap
  have keep : ∀ (a : Act), GivesR P ops R oi v a w₀ → ∀ u, GivesR P ops R oi v (a.put oj.dst u) w₀ := fun a hy u =>
    hy.of_same (execOp_put oi hsi a oj.dst u h3) (wanted_put oi a oj.dst u h3)
  have keepD : ∀ d, GivesR P ops R oi v { a with defers := d :: a.defers } w₀ := fun d => hy.of_same rfl rfl
  unfold wpOp at *
  simp only [hj] at *
  rw [wanted_put oj a oi.dst v h1] at h
  split
  · rename_i hw
    simp only [hw, if_true] at h
    rcases h with h | ⟨hasks, hlets⟩
    case inr => exact .inr ⟨by unfold Oper.asks at *; rw [execOp_put oj hsj a oi.dst v h1] at hasks; exact hasks, hlets⟩
    refine .inl ?_
    unfold Oper.wp at *
    rw [execOp_put oj hsj a oi.dst v h1] at h
    generalize (execOp a.eval oj).run P w = r at *
    cases r with
    | ok n w' =>
      cases n <;> simp only [Oper.upon] at h ⊢
      case value u => exact ⟨keep a hy u, by rw [← Act.put_comm a v u h2]; exact h⟩
      case skip => exact ⟨keep a hy _, by rw [← Act.put_comm a v undef h2]; exact h⟩
      case defer d =>
        refine ⟨keep _ (keepD d) _, ?_⟩
        rw [← Act.put_comm _ v undef h2, ← Act.put_defers]
        exact h
      case enter f args =>
        refine Calls.mono h fun e w'' he => ?_
        cases e with
        | returned u => exact ⟨keep a hy u, by rw [← Act.put_comm a v u h2]; exact he⟩
        | panicked c => exact hQ _ _ _ he
        | outgrown => exact he
      case row row args => exact Rows.mono h fun u w'' he => ⟨keep a hy u, by rw [← Act.put_comm a v u h2]; exact he⟩
    | halt x w' =>
      cases x <;> simp only [Oper.upon] at h ⊢
      case panic u => exact hQ _ _ _ h
  · rename_i hw
    simp only [hw] at h
    exact ⟨keep a hy _, by rw [← Act.put_comm a v undef h2]; exact h⟩

theorem wpAnyR_first (hre : ∀ a, R a a) (ht : ∀ a b c, R a b → R b c → R a c) {i : Nat} {oi : Oper} {v : Value} (hi : ops[i]? = some oi) (hsel : ∀ (j : Nat) (o : Oper) cs b, ops[j]? = some o → o.op ≠ .select cs b)
    (hQ : ∀ c a w, Q (.panic c) (a.put oi.dst v) w → Q (.panic c) a w) :
    ∀ (fuel : Nat) (listed : Array Bool) (a : Act) (w : World),
      (∀ j oj, ops[j]? = some oj → j ≠ i → listed.getD j true = false → (∀ e ∈ oj.after, Region.binds md e = true → e.on ≠ i) → oi.apart ops oj = true) →
      i ∈ Region.ready md ops listed → GivesR P ops R oi v a w →
      wpAnyR P md ops Q R fuel (listed.setIfInBounds i true) (a.put oi.dst v) w → wpAnyR P md ops Q R (fuel + 1) listed a w := by
  intro fuel
  induction fuel with
  | zero =>
    intro listed a w _ hr hy H
    refine ⟨fun h => (by rw [h] at hr; cases hr), fun j hj w' hw' => ?_⟩
    by_cases hji : j = i
    · subst hji; exact hy.wpOp hre hi hw' (fun w'' h'' => ⟨h'', wpAnyR_up ht (ht _ _ _ hw' h'') _ _ _ H⟩)
    · have := ready_mono hj hji
      rw [H.1] at this
      cases this
  | succ fuel ih =>
    intro listed a w hfree hr hy H
    refine ⟨fun h => (by rw [h] at hr; cases hr), fun j hj w' hw' => ?_⟩
    by_cases hji : j = i
    · subst hji; exact hy.wpOp hre hi hw' (fun w'' h'' => ⟨h'', wpAnyR_up ht (ht _ _ _ hw' h'') _ _ _ H⟩)
    · have h1 := H.2 j (ready_mono hj hji) w' hw'
      obtain ⟨hjun, oj, hoj, hall⟩ := mem_ready.1 hj
      have hnot : ∀ e ∈ oj.after, Region.binds md e = true → e.on ≠ i := fun e he hb heq => by
        have h1 := hall e he hb
        have h0 := (mem_ready.1 hr).1
        rw [heq] at h1
        rcases Nat.lt_or_ge i listed.size with h' | h'
        · simp [h'] at h0 h1; rw [h0] at h1; cases h1
        · simp [Array.getElem?_eq_none h'] at h1
      have h2 := wpOp_putR hoj (hfree j oj hoj hji hjun hnot) (fun cs b => hsel i oi cs b hi) (fun cs b => hsel j oj cs b hoj) hQ hy h1
      have hfree' : ∀ k ok, ops[k]? = some ok → k ≠ i → (listed.setIfInBounds j true).getD k true = false →
          (∀ e ∈ ok.after, Region.binds md e = true → e.on ≠ i) → oi.apart ops ok = true := fun k ok hk hki hun hno => by
        refine hfree k ok hk hki ?_ hno
        by_cases hjk : j = k
        · subst hjk; exact hjun
        · rw [getD_set_ne true hjk] at hun; exact hun
      refine wpOp_mono (fun a' w'' h3 => ⟨h3.2.1, ih (listed.setIfInBounds j true) a' w'' hfree' (ready_mono hr (Ne.symm hji)) (h3.1.up ht (ht _ _ _ hw' h3.2.1)) ?_⟩) h2
      rw [Array.setIfInBounds_comm _ _ hji]
      exact h3.2.2

end

/-- What follows a world: nothing that was there has turned. -/
def Later (w w' : World) : Prop := Below w.heap.size w w'
theorem Later.refl (w : World) : Later w w := Below.refl _ _
theorem Later.trans {a b c : World} (h : Later a b) (k : Later b c) : Later a c := Below.trans h (k.mono h.size)

theorem Later.cell {a b : World} (h : Later a b) {p : Addr} {v : Value} (hc : a.cell? p = some v) : b.cell? p = some v := (Below.cell h (World.block_lt_of_cell? a p hc)).trans hc
theorem Later.below {n : Nat} {a b c : World} (h : Below n a b) (hn : n ≤ a.heap.size) (k : Later b c) : Below n a c := h.trans (k.mono (Nat.le_trans hn h.size))

/-- A relation to walk by; nothing but the blocks of E may turn. -/
def Pre (R : World → World → Prop) : Prop := (∀ a, R a a) ∧ ∀ a b c, R a b → R b c → R a c
theorem Later.pre : Pre Later := ⟨Later.refl, fun _ _ _ => Later.trans⟩
theorem Later.drew (w : World) : Later w w.drew := ⟨rfl, rfl, rfl, Nat.le_refl _, fun _ _ => rfl⟩
structure But (E : Nat → Prop) (w w' : World) : Prop where
  os : w'.os = w.os
  tape : w'.tape = w.tape
  output : w'.output = w.output
  size : w.heap.size ≤ w'.heap.size
  block : ∀ k, k < w.heap.size → ¬ E k → w'.heap[k]? = w.heap[k]?
theorem But.pre (E : Nat → Prop) : Pre (But E) := ⟨fun _ => ⟨rfl, rfl, rfl, Nat.le_refl _, fun _ _ _ => rfl⟩, fun _ _ _ h k => ⟨k.os.trans h.os, k.tape.trans h.tape, k.output.trans h.output, Nat.le_trans h.size k.size, fun i hi he => (k.block i (Nat.lt_of_lt_of_le hi h.size) he).trans (h.block i hi he)⟩⟩
theorem But.refl (E : Nat → Prop) (w : World) : But E w w := (But.pre E).1 w
theorem But.trans {E : Nat → Prop} {a b c : World} (h : But E a b) (k : But E b c) : But E a c := (But.pre E).2 _ _ _ h k
theorem But.of {E : Nat → Prop} {a b : World} (h : Later a b) : But E a b := ⟨h.os, h.tape, h.output, h.size, fun i hi _ => h.block i hi⟩
theorem But.drew (E : Nat → Prop) (w : World) : But E w w.drew := But.of (Later.drew w)
theorem But.below {E : Nat → Prop} {n : Nat} {a b : World} (h : But E a b) (hn : n ≤ a.heap.size) (hE : ∀ k, k < n → ¬ E k) : Below n a b := ⟨h.os, h.tape, h.output, h.size, fun i hi => h.block i (Nat.lt_of_lt_of_le hi hn) (hE i hi)⟩
theorem But.setCell {E : Nat → Prop} {a b : World} (h : But E a b) {p : Addr} (hp : E p.block) (u : Value) : But E a (b.setCell p u) :=
  ⟨h.os, h.tape, h.output, by simpa [World.setCell] using h.size, fun i hi he => (Below.heap_setCell b p u i (fun e => he (e ▸ hp))).trans (h.block i hi he)⟩
theorem But.cell {E : Nat → Prop} {a b : World} (h : But E a b) {p : Addr} {v : Value} (hc : a.cell? p = some v) (hE : ¬ E p.block) : b.cell? p = some v := (World.cell?_of_block (w := a) (h.block p.block (World.block_lt_of_cell? a p hc) hE)).trans hc

/-- The same, and what holds of a world stays so. -/
def Keep (E : Nat → Prop) (G F : World → Prop) (w w' : World) : Prop := But E w w' ∧ (G w → G w') ∧ (F w → F w')
theorem Keep.pre (E : Nat → Prop) (G F : World → Prop) : Pre (Keep E G F) := ⟨fun a => ⟨But.refl E a, id, id⟩, fun _ _ _ h k => ⟨h.1.trans k.1, fun g => k.2.1 (h.2.1 g), fun g => k.2.2 (h.2.2 g)⟩⟩
theorem Keep.refl {E : Nat → Prop} {G F : World → Prop} (w : World) : Keep E G F w w := (Keep.pre E G F).1 w
theorem Keep.trans {E : Nat → Prop} {G F : World → Prop} {a b c : World} (h : Keep E G F a b) (k : Keep E G F b c) : Keep E G F a c := (Keep.pre E G F).2 _ _ _ h k
theorem Keep.of {E : Nat → Prop} {G F : World → Prop} {w w' : World} (hg : ∀ w w', Later w w' → G w → G w') (hf : ∀ w w', Later w w' → F w → F w') (l : Later w w') : Keep E G F w w' := ⟨But.of l, hg _ _ l, hf _ _ l⟩

/-- A block that may be written. -/
def Wr (n k : Nat) (t : TypeId) (w : World) : Prop := ∃ cur, w.heap[n]? = some (.cells cur t (0, 0)) ∧ cur.size = k
theorem Wr.later {n k : Nat} {t : TypeId} {w w' : World} (h : Wr n k t w) (l : Later w w') : Wr n k t w' := by
  obtain ⟨cur, h1, h2⟩ := h
  exact ⟨cur, (l.block n (Array.getElem?_eq_some_iff.1 h1).1).trans h1, h2⟩
/-- A cell stored in a block. -/
theorem heap_set1 {W : World} {n : Nat} {cur : Array Value} {t : TypeId} (h : W.heap[n]? = some (.cells cur t (0, 0))) (j : Nat) (v : Value) : (W.setCell ⟨n, j, none⟩ v).heap[n]? = some (.cells (cur.setIfInBounds j v) t (0, 0)) := by
  show (W.heap.modify n _)[n]? = _
  rw [Array.getElem?_modify, if_pos rfl, h]
  rfl
/-- Cells stored, one behind the other, from j on. -/
def putRow (W : World) (n : Nat) : Nat → List Value → World
  | _, [] => W
  | j, v :: r => putRow (W.setCell ⟨n, j, none⟩ v) n (j + 1) r
theorem putRow_but {E : Nat → Prop} {n : Nat} (hE : E n) : ∀ (vs : List Value) (j : Nat) (W V : World), But E V W → But E V (putRow W n j vs)
  | [], _, _, _, h => h
  | v :: r, j, W, V, h => putRow_but hE r (j + 1) _ V (h.setCell (p := ⟨n, j, none⟩) hE v)
theorem putRow_heap {n : Nat} {t : TypeId} : ∀ (vs pre post : List Value) (W : World), W.heap[n]? = some (.cells (pre ++ post).toArray t (0, 0)) → post.length = vs.length → (putRow W n pre.length vs).heap[n]? = some (.cells (pre ++ vs).toArray t (0, 0))
  | [], pre, post, W, h, hl => by
    have : post = [] := List.length_eq_zero_iff.1 hl
    subst this
    exact h
  | v :: r, pre, [], W, h, hl => by simp at hl
  | v :: r, pre, p :: post, W, h, hl => by
    have h1 := heap_set1 h pre.length v
    have e : ((pre ++ p :: post).toArray.setIfInBounds pre.length v) = ((pre ++ [v]) ++ post).toArray := by
      simp
    rw [e] at h1
    have := putRow_heap r (pre ++ [v]) post _ h1 (by simpa using hl)
    simpa [putRow] using this
theorem putRow_all {n : Nat} {t : TypeId} {W : World} {cur : Array Value} (vs : List Value) (h : W.heap[n]? = some (.cells cur t (0, 0))) (hl : cur.size = vs.length) : (putRow W n 0 vs).heap[n]? = some (.cells vs.toArray t (0, 0)) := by
  have := putRow_heap vs [] cur.toList W (by simpa using h) (by simpa using hl)
  simpa using this

/-- append, by what it yields. -/
theorem wp_app {P : Program} {o : Oper} {a : Act} {w : World} {K : Act → World → Prop} {Q : Exit → Act → World → Prop} (s x : Operand) (t : TypeId) (hop : o.op = Op.call { callee := Callee.builtin Builtin.append, args := #[s, x], argTypes := #[t, t] })
    (v sx : Value) (hs : a.eval s = v) (hx : a.eval x = sx) (v' : Value) (w' : World) (hrun : (Builtin.append_ #[t, t] o.type #[v, sx]).run P w = .ok v' w') (hK : K (a.put o.dst v') w') : o.wp P a w K Q := by
  unfold Oper.wp
  simp [execOp, hop, resolve, invoke, builtin, hs, hx, hrun, Result.andThen]
  exact hK

/-- A call, by the contract. -/
theorem wp_enter {P : Program} {o : Oper} {a : Act} {w : World} {K : Act → World → Prop} {Q : Exit → Act → World → Prop} (f : FuncId) (args : Array Value) (h : (execOp a.eval o).run P w = .ok (.enter f args) w)
    (hc : Calls P f args w fun | .returned v, w'' => K (a.put o.dst v) w'' | .panicked c, w'' => Q (.panic c) a w'' | .outgrown, _ => LetsOut Q) : o.wp P a w K Q := by
  unfold Oper.wp
  rw [h]
  exact hc
theorem wp_value {P : Program} {o : Oper} {a : Act} {w w' : World} {K : Act → World → Prop} {Q : Exit → Act → World → Prop} (v : Value) (h : (execOp a.eval o).run P w = .ok (.value v) w')
    (hk : K (a.put o.dst v) w') : o.wp P a w K Q := by
  unfold Oper.wp
  rw [h]
  exact hk

/-- An operation by its number, so that it stands written out. -/
def nthOp : List Oper → Nat → Option Oper
  | [], _ => none
  | o :: _, 0 => some o
  | _ :: r, n + 1 => nthOp r n
theorem nthOp_eq : ∀ (l : List Oper) (i : Nat), nthOp l i = l[i]?
  | [], _ => rfl
  | _ :: _, 0 => rfl
  | _ :: r, n + 1 => by rw [nthOp, nthOp_eq r n]; rfl

section
variable {P : Program} {l : List Oper} {Q : Exit → Act → World → Prop} {fuel : Nat} {listed : Array Bool} {a : Act} {w : World} {R : World → World → Prop}

/-- Number i is taken first: v in every later world. -/
theorem anyR_take (hp : Pre R) (i : Nat) {oi : Oper} (v : Value) (hi : nthOp l i = some oi)
    (hs : Region.noSelect l.toArray = true) (hf : Region.free .any l.toArray listed i = true) (hr : (Region.ready .any l.toArray listed).contains i = true)
    (hQ : ∀ c a w, Q (.panic c) (a.put oi.dst v) w → Q (.panic c) a w) (hg : oi.guard = none)
    (hy : ∀ w', R w w' → goesTo P R w' v ((execOp a.eval oi).run P w'))
    (h : wpAnyR P .any l.toArray Q R fuel (listed.setIfInBounds i true) (a.put oi.dst v) w) : wpAnyR P .any l.toArray Q R (fuel + 1) listed a w := by
  have hi' : l.toArray[i]? = some oi := by rw [← hi, nthOp_eq]; simp
  exact wpAnyR_first hp.1 hp.2 hi' (Region.noSelect_spec hs) hQ fuel listed a w (Region.free_spec hi' hf) (by simpa using hr) (.inl ⟨by simp [Region.wanted, hg], hy⟩) h

theorem goes_val (hp : Pre R) {v : Value} {r : Result Next} {w' : World} (h : r = .ok (.value v) w') : goesTo P R w' v r := by rw [h]; exact ⟨hp.1 _, rfl⟩
theorem goes_call {v : Value} {r : Result Next} {w' : World} (f : FuncId) (args : Array Value) (h : r = .ok (.enter f args) w') (hc : Calls P f args w' fun e w'' => e = .returned v ∧ R w' w'') : goesTo P R w' v r := by rw [h]; exact ⟨rfl, hc⟩

theorem anyR_val (hp : Pre R) (i : Nat) {oi : Oper} (hi : nthOp l i = some oi)
    (hs : Region.noSelect l.toArray = true) (hf : Region.free .any l.toArray listed i = true) (hr : (Region.ready .any l.toArray listed).contains i = true)
    (hQ : ∀ v c a w, Q (.panic c) (a.put oi.dst v) w → Q (.panic c) a w) (hg : oi.guard = none)
    (h : ∃ v, (∀ w', R w w' → (execOp a.eval oi).run P w' = .ok (.value v) w') ∧ wpAnyR P .any l.toArray Q R fuel (listed.setIfInBounds i true) (a.put oi.dst v) w) : wpAnyR P .any l.toArray Q R (fuel + 1) listed a w :=
  let ⟨v, h1, h2⟩ := h
  anyR_take hp i v hi hs hf hr (hQ v) hg (fun w' hw' => goes_val hp (h1 w' hw')) h2

/-- The beginning. -/
theorem anyR_begin (hp : Pre R) (hd : ∀ w : World, R w w.drew) {id : Nat} (n : Nat) (hn : l.length = n) (hm : P.follows .mixedOrders = true)
    (h : ∀ w₁, R w w₁ → wpAnyR P .any l.toArray Q R n (Array.replicate n false) a w₁) : (Code.region id l.toArray true).wp P Q a w := by
  subst hn
  refine wp_region_any hm (wpAny_of_R hp.1 _ _ _ _ ?_)
  have := h { w with drawn := w.drawn + 1 } (hd w)
  simpa using this

/-- The end. -/
theorem anyR_done (hr : Region.ready .any l.toArray listed = []) (h : ∀ w', R w w' → Q .normal a w') : wpAnyR P .any l.toArray Q R fuel listed a w := by
  cases fuel with
  | zero => exact ⟨hr, h⟩
  | succ n => exact ⟨fun _ => h, by rw [hr]; simp⟩

/-- One that may come up. -/
theorem anyR_one (i : Nat) {oi : Oper} (hi : nthOp l i = some oi) (hr : Region.ready .any l.toArray listed = [i]) (gi : oi.guard = none)
    (h1 : ∀ w', R w w' → oi.wp P a w' (fun a' w'' => R w' w'' ∧ wpAnyR P .any l.toArray Q R fuel (listed.setIfInBounds i true) a' w'') Q) :
    wpAnyR P .any l.toArray Q R (fuel + 1) listed a w := by
  have hi' : l.toArray[i]? = some oi := by rw [← hi, nthOp_eq]; simp
  refine ⟨fun h0 => (by rw [hr] at h0; cases h0), fun k hk w' hw' => ?_⟩
  rw [hr] at hk
  unfold wpOp
  obtain rfl : k = i := by simpa using hk
  rw [hi']; simp only [Region.wanted, gi]; exact .inl (h1 w' hw')
end
end Go.Proofs.YtohflohdbkamnaaGreatDoor
