/- A region that draws its order, in a round of a range over a function. -/
import Derived.OrdersIn
import Derived.RangeFuncCalls
import Derived.Test.YtehdgndbloaljaaDoorRg
import Derived.Test.YtehdgndbloaljaaDoorRv
namespace Go.Proofs.YtehdgndbloaljaaDoor
open Go.RowKit Go.Shelf
set_option maxRecDepth 100000
set_option linter.unusedVariables false

def calmQ (Q : Act → World → Prop) : Exit → Act → World → Prop := fun e a w => e = .normal ∧ Q a w
theorem calmQ_out {Q : Act → World → Prop} (h : LetsOut (calmQ Q)) : False := by
  have := h
  simp [LetsOut, calmQ] at this
theorem opIn_round {P : Program} {o : Oper} {a : Act} {w : World} {K : Act → World → Prop} {Q : Exit → Act → World → Prop} (l n : Nat) (hd : ∀ c, o.op ≠ .defer c) (h : o.wp P a w K Q) : o.wpIn (Fence.wide.inRound l) n P a w K Q := by
  unfold Oper.wpIn
  refine ⟨fun _ _ => trivial, ?_⟩
  rw [show (Fence.wide.inRound l).round = some l from rfl, Oper.semAt_some l _ _ hd]
  unfold Oper.wp at h
  generalize (execOp a.eval o).run P w = r at *
  cases r with
  | ok x w' =>
    cases x with
    | enter f args => exact ⟨(fun h0 => by cases h0), CallsIn.inRound l (callsIn_wide.2 h)⟩
    | row r args => exact ⟨(fun h0 => by cases h0), fun c cs _ => let ⟨v, w2, r1, s1⟩ := h c cs; ⟨v, w2, r1, stepsIn_wide.2 s1⟩⟩
    | value v => exact h
    | skip => exact h
    | defer d => exact h
    | round a b c d e => exact h.elim
    | _ => exact h.elim
  | halt x w' => cases x <;> exact h
theorem wpAnyIn_round {P : Program} {md : Region.Mode} {ops : Array Oper} {Q : Act → World → Prop} (l n : Nat) (hd : ∀ (i : Nat) (o : Oper), ops[i]? = some o → ∀ c, o.op ≠ .defer c) : ∀ (fuel : Nat) (listed : Array Bool) (a : Act) (w : World),
    wpAny P md ops (calmQ Q) fuel listed a w → wpAnyIn (Fence.wide.inRound l) n P md ops (calmQ Q) fuel listed a w
  | 0, _, _, _, h => h
  | fuel + 1, listed, a, w, h => ⟨h.1, fun i hi => by
    have h2 := h.2 i hi
    unfold wpOp at h2
    unfold wpOpIn
    cases ho : ops[i]? with
    | none => rw [ho] at h2; exact wpAnyIn_round l n hd fuel _ _ _ h2
    | some o =>
      rw [ho] at h2
      simp only at h2 ⊢
      split
      · rename_i hw
        rw [if_pos hw] at h2
        rcases h2 with h2 | h2
        · exact Oper.wpIn_mono (fun a' w' h' => wpAnyIn_round l n hd fuel _ a' w' h') (opIn_round l n (hd i o ho) h2)
        · exact (calmQ_out h2.2).elim
      · rename_i hw
        rw [if_neg hw] at h2
        exact ⟨fun _ _ => trivial, wpAnyIn_round l n hd fuel _ _ _ h2⟩⟩
variable {P : Program} {R : World → World → Prop} {w : World} {a : Act} {ops : List Oper}
theorem anyR_beginIn (hp : Pre R) (hdr : ∀ w : World, R w w.drew) {id : Nat} {Q : Exit → Act → World → Prop} {l₀ m : Nat} (n : Nat) (hn : ops.length = n) (hm : P.follows .mixedOrders = true) (hd : ∀ (i : Nat) (o : Oper), ops[i]? = some o → ∀ c, o.op ≠ .defer c)
    (h : ∀ w₁, R w w₁ → wpAnyR P .any ops.toArray (calmQ (Q .normal)) R n (Array.replicate n false) a w₁) : (Code.region id ops.toArray true).wpIn (Fence.wide.inRound l₀) m P Q a w := by
  subst hn
  refine wpIn_mono (wpIn_region_any hm (wpAnyIn_round l₀ m (fun i o ho => hd i o (by simpa using ho)) _ _ _ _ (wpAny_of_R hp.1 _ _ _ _ ?_))) (fun e a w h => by obtain ⟨rfl, h⟩ := h; exact h)
  have := h { w with drawn := w.drawn + 1 } (hdr w)
  simpa using this
theorem anyU_beginIn {R1 R2 : World → World → Prop} {D : List Nat} {id : Nat} {Q : Exit → Act → World → Prop} {l₀ m : Nat} (n : Nat) (hn : ops.length = n) (hm : P.follows .mixedOrders = true) (hd : ∀ (i : Nat) (o : Oper), ops[i]? = some o → ∀ c, o.op ≠ .defer c)
    (h : wpAnyU P .any ops.toArray (calmQ (Q .normal)) R1 R2 D n (Array.replicate n false) a w.drew) : (Code.region id ops.toArray true).wpIn (Fence.wide.inRound l₀) m P Q a w := by
  subst hn
  refine wpIn_mono (wpIn_region_any hm (wpAnyIn_round l₀ m (fun i o ho => hd i o (by simpa using ho)) _ _ _ _ (wpAny_of_U (R1 := R1) (R2 := R2) (D := D) _ _ _ _ ?_))) (fun e a w h => by obtain ⟨rfl, h⟩ := h; exact h)
  simpa using h
theorem anyU_two {R1 R2 : World → World → Prop} {D : List Nat} {fuel : Nat} {listed : Array Bool} {Q : Exit → Act → World → Prop} (i j : Nat) {oi oj : Oper} (hi : nthOp ops i = some oi) (hj : nthOp ops j = some oj) (hr : Region.ready .any ops.toArray listed = [i, j]) (gi : Region.wanted oi (yielded ops.toArray a.tmps) = true) (gj : Region.wanted oj (yielded ops.toArray a.tmps) = true)
    (h1 : oi.wp P a w (fun a' w'' => Rj R1 R2 D i w w'' ∧ wpAnyU P .any ops.toArray Q R1 R2 D fuel (listed.setIfInBounds i true) a' w'') Q)
    (h2 : oj.wp P a w (fun a' w'' => Rj R1 R2 D j w w'' ∧ wpAnyU P .any ops.toArray Q R1 R2 D fuel (listed.setIfInBounds j true) a' w'') Q) :
    wpAnyU P .any ops.toArray Q R1 R2 D (fuel + 1) listed a w := by
  have hi' : ops.toArray[i]? = some oi := by rw [← hi, nthOp_eq]; simp
  have hj' : ops.toArray[j]? = some oj := by rw [← hj, nthOp_eq]; simp
  refine ⟨fun h0 => (by rw [hr] at h0; cases h0), fun k hk => ?_⟩
  rw [hr] at hk
  unfold wpOp
  rcases List.mem_cons.1 hk with rfl | hk
  · rw [hi']; simp only [gi, if_true]; exact .inl h1
  · obtain rfl : k = j := by simpa using hk
    rw [hj']; simp only [gj, if_true]; exact .inl h2
/-- No operation of these is put off. -/
def noDefer : List Oper → Bool
  | [] => true
  | o :: r => (match o.op with | .defer _ => false | _ => true) && noDefer r
theorem noDefer_spec : ∀ {l : List Oper}, noDefer l = true → ∀ (i : Nat) (o : Oper), l[i]? = some o → ∀ c, o.op ≠ .defer c
  | [], _, i, o, h, c => by simp at h
  | x :: r, hn, 0, o, h, c => by
    simp at h
    subst h
    intro e
    simp [noDefer, e] at hn
  | x :: r, hn, i + 1, o, h, c => by
    simp [noDefer] at hn
    exact noDefer_spec hn.2 i o (by simpa using h) c
/-- append of a text, by what it yields. -/
theorem wp_appT {o : Oper} {K : Act → World → Prop} {Q : Exit → Act → World → Prop} (s x : Operand) (t u : TypeId) (hop : o.op = Op.call { callee := Callee.builtin Builtin.append, args := #[s, x], argTypes := #[t, u] })
    (v sx : Value) (hs : a.eval s = v) (hx : a.eval x = sx) (v' : Value) (w' : World) (hrun : (Builtin.append_ #[t, u] o.type #[v, sx]).run P w = .ok v' w') (hK : K (a.put o.dst v') w') : o.wp P a w K Q := by
  unfold Oper.wp
  simp [execOp, hop, resolve, invoke, builtin, hs, hx, hrun, Result.andThen]
  exact hK
end Go.Proofs.YtehdgndbloaljaaDoor
