/- Several texts in one. -/
import Derived.Test.YtibjgaelaijgpaaGreatDoorRx
import Derived.Test.YtibjgaelaijgpaaGreatDoorRt
import Derived.OrdersIn
import Derived.RangeFuncCalls
import Derived.Test.YtibjgaelaijgpaaGreatDoorRg
import Derived.Test.YtibjgaelaijgpaaGreatDoorIL
import Derived.Lib.AppendStr
import Derived.Deep.Cut
import Derived.Test.YtibjgaelaijgpaaGreatDoorV5
import Derived.Test.YtibjgaelaijgpaaGreatDoorRk
import Derived.Deep.AppendLies
import Derived.Deep.Upon
/- A range over a function whose body may leave a block around it. -/
namespace Go.Proofs.YtibjgaelaijgpaaGreatDoor
open Go.RowKit Go.Shelf
set_option maxRecDepth 100000
set_option linter.unusedVariables false

end Go.Proofs.YtibjgaelaijgpaaGreatDoor

/- Regions that draw their order, with guards: an operation that only reckons is taken first, one that is alone is taken in its world. -/
namespace Go.Proofs.YtibjgaelaijgpaaGreatDoor
open Go.RowKit Go.Shelf
set_option maxRecDepth 100000
set_option linter.unusedVariables false

section
variable {P : Program} {ops : Array Oper} {Q : Exit → Act → World → Prop} {md : Region.Mode} {R : World → World → Prop}
def GivesG (P : Program) (ops : Array Oper) (R : World → World → Prop) (o : Oper) (v : Value) (a : Act) (w : World) : Prop :=
  Region.wanted o (yielded ops a.tmps) = true ∧ ∀ w', R w w' → (execOp a.eval o).run P w' = .ok (.value v) w'
theorem GivesG.of_same {o : Oper} {v : Value} {a a' : Act} {w : World} (hy : GivesG P ops R o v a w) (he : execOp a'.eval o = execOp a.eval o)
    (hw : Region.wanted o (yielded ops a'.tmps) = Region.wanted o (yielded ops a.tmps)) : GivesG P ops R o v a' w := by
  unfold GivesG at *
  rw [he, hw]
  exact hy
theorem GivesG.up {o : Oper} {v : Value} {a : Act} {w w' : World} (ht : ∀ a b c, R a b → R b c → R a c) (hy : GivesG P ops R o v a w) (h : R w w') : GivesG P ops R o v a w' := ⟨hy.1, fun w'' h' => hy.2 w'' (ht _ _ _ h h')⟩

theorem wpOp_putG {j : Nat} {oi oj : Oper} {v : Value} (hj : ops[j]? = some oj) (hap : oi.apart ops oj = true)
    (hsi : ∀ cs b, oi.op ≠ .select cs b) (hsj : ∀ cs b, oj.op ≠ .select cs b)
    (hQ : ∀ c a w, Q (.panic c) (a.put oi.dst v) w → Q (.panic c) a w) {K : Act → World → Prop} {a : Act} {w w₀ : World}
    (hy : GivesG P ops R oi v a w₀) (h : wpOp P ops Q j K (a.put oi.dst v) w) :
    wpOp P ops Q j (fun a' w' => GivesG P ops R oi v a' w₀ ∧ K (a'.put oi.dst v) w') a w := by
  obtain ⟨h1, h2, h3⟩ := Oper.apart_spec hap
  have keep : ∀ (a : Act), GivesG P ops R oi v a w₀ → ∀ u, GivesG P ops R oi v (a.put oj.dst u) w₀ := fun a hy u =>
    hy.of_same (execOp_put oi hsi a oj.dst u h3) (wanted_put oi a oj.dst u h3)
  have keepD : ∀ d, GivesG P ops R oi v { a with defers := d :: a.defers } w₀ := fun d => hy.of_same rfl rfl
  unfold wpOp at *
  simp only [hj] at *
  rw [wanted_put oj a oi.dst v h1] at h
  split
  · rename_i hw
    simp only [hw, if_true] at h
    rcases h with h | ⟨hasks, hlets⟩
    case inr => exact .inr ⟨by unfold Oper.asks at *; rw [execOp_put oj hsj a oi.dst v h1] at hasks; exact hasks, hlets⟩
    refine .inl ?_
    unfold Oper.wp at *
    rw [execOp_put oj hsj a oi.dst v h1] at h
    generalize (execOp a.eval oj).run P w = r at *
    cases r with
    | ok n w' =>
      cases n <;> simp only [Oper.upon] at h ⊢
      case value u => exact ⟨keep a hy u, by rw [← Act.put_comm a v u h2]; exact h⟩
      case skip => exact ⟨keep a hy _, by rw [← Act.put_comm a v undef h2]; exact h⟩
      case defer d =>
        refine ⟨keep _ (keepD d) _, ?_⟩
        rw [← Act.put_comm _ v undef h2, ← Act.put_defers]
        exact h
      case enter f args =>
        refine Calls.mono h fun e w'' he => ?_
        cases e with
        | returned u => exact ⟨keep a hy u, by rw [← Act.put_comm a v u h2]; exact he⟩
        | panicked c => exact hQ _ _ _ he
        | outgrown => exact he
      case row row args => exact Rows.mono h fun u w'' he => ⟨keep a hy u, by rw [← Act.put_comm a v u h2]; exact he⟩
    | halt x w' =>
      cases x <;> simp only [Oper.upon] at h ⊢
      case panic u => exact hQ _ _ _ h
  · rename_i hw
    simp only [hw] at h
    exact ⟨keep a hy _, by rw [← Act.put_comm a v undef h2]; exact h⟩

theorem GivesG.wpOp {i : Nat} {o : Oper} {v : Value} {a : Act} {w : World} (hr : ∀ a, R a a) (hi : ops[i]? = some o) (hy : GivesG P ops R o v a w)
    {K : Act → World → Prop} (h : K (a.put o.dst v) w) : Go.wpOp P ops Q i K a w := by
  unfold Go.wpOp
  simp only [hi, hy.1, if_true]
  refine .inl ?_
  unfold Oper.wp
  rw [hy.2 w (hr w)]
  exact h

end

section
variable {P : Program} {l : List Oper} {Q : Exit → Act → World → Prop} {fuel : Nat} {listed : Array Bool} {a : Act} {w : World} {R : World → World → Prop}
end
end Go.Proofs.YtibjgaelaijgpaaGreatDoor

/- Regions that draw their order: some operations (those of D) may turn more than the others; what is read ahead of them is taken first. -/
namespace Go.Proofs.YtibjgaelaijgpaaGreatDoor
open Go.RowKit Go.Shelf
set_option maxRecDepth 100000
set_option linter.unusedVariables false

def Rj (R1 R2 : World → World → Prop) (D : List Nat) (j : Nat) : World → World → Prop := if D.contains j = true then R2 else R1
theorem Rj_in {R1 R2 : World → World → Prop} {D : List Nat} {j : Nat} (h : D.contains j = true) {w w' : World} (k : R2 w w') : Rj R1 R2 D j w w' := by unfold Rj; rw [if_pos h]; exact k
theorem Rj_out {R1 R2 : World → World → Prop} {D : List Nat} {j : Nat} (h : D.contains j = false) {w w' : World} (k : R1 w w') : Rj R1 R2 D j w w' := by unfold Rj; rw [if_neg (by rw [h]; simp)]; exact k

section
variable {P : Program} {ops : Array Oper} {Q : Exit → Act → World → Prop} {md : Region.Mode} {R1 R2 S : World → World → Prop} {D : List Nat}
def wpAnyU (P : Program) (md : Region.Mode) (ops : Array Oper) (Q : Exit → Act → World → Prop) (R1 R2 : World → World → Prop) (D : List Nat) : Nat → Array Bool → Act → World → Prop
  | 0, listed, a, w => Region.ready md ops listed = [] ∧ Q .normal a w
  | fuel + 1, listed, a, w =>
    (Region.ready md ops listed = [] → Q .normal a w) ∧
    ∀ i ∈ Region.ready md ops listed, wpOp P ops Q i (fun a' w'' => Rj R1 R2 D i w w'' ∧ wpAnyU P md ops Q R1 R2 D fuel (listed.setIfInBounds i true) a' w'') a w

theorem wpAny_of_U : ∀ (fuel : Nat) (listed : Array Bool) (a : Act) (w : World), wpAnyU P md ops Q R1 R2 D fuel listed a w → wpAny P md ops Q fuel listed a w
  | 0, _, _, _, h => h
  | fuel + 1, _, _, _, h => ⟨h.1, fun i hi => wpOp_mono (fun a' w' h' => wpAny_of_U fuel _ a' w' h'.2) (h.2 i hi)⟩

theorem wpAnyU_first (hre : ∀ a, S a a) (ht : ∀ a b c, S a b → S b c → S a c) {i : Nat} {oi : Oper} {v : Value} (hi : ops[i]? = some oi) (hself : ∀ w, Rj R1 R2 D i w w) (hsel : ∀ (j : Nat) (o : Oper) cs b, ops[j]? = some o → o.op ≠ .select cs b)
    (hQ : ∀ c a w, Q (.panic c) (a.put oi.dst v) w → Q (.panic c) a w) (Inv : Array Bool → Prop)
    (hInv : ∀ listed, Inv listed → listed.getD i true = false → ∀ j ∈ Region.ready md ops listed, j ≠ i → (∀ w w', Rj R1 R2 D j w w' → S w w') ∧ Inv (listed.setIfInBounds j true)) :
    ∀ (fuel : Nat) (listed : Array Bool) (a : Act) (w : World), Inv listed →
      (∀ j oj, ops[j]? = some oj → j ≠ i → listed.getD j true = false → (∀ e ∈ oj.after, Region.binds md e = true → e.on ≠ i) → oi.apart ops oj = true) →
      i ∈ Region.ready md ops listed → GivesG P ops S oi v a w →
      wpAnyU P md ops Q R1 R2 D fuel (listed.setIfInBounds i true) (a.put oi.dst v) w → wpAnyU P md ops Q R1 R2 D (fuel + 1) listed a w := by
  intro fuel
  induction fuel with
  | zero =>
    intro listed a w _ _ hr hy H
    refine ⟨fun h => (by rw [h] at hr; cases hr), fun j hj => ?_⟩
    by_cases hji : j = i
    · subst hji; exact hy.wpOp hre hi ⟨hself _, H⟩
    · have := ready_mono hj hji
      rw [H.1] at this
      cases this
  | succ fuel ih =>
    intro listed a w hinv hfree hr hy H
    refine ⟨fun h => (by rw [h] at hr; cases hr), fun j hj => ?_⟩
    by_cases hji : j = i
    · subst hji; exact hy.wpOp hre hi ⟨hself _, H⟩
    · have h1 := H.2 j (ready_mono hj hji)
      obtain ⟨hjun, oj, hoj, hall⟩ := mem_ready.1 hj
      have hnot : ∀ e ∈ oj.after, Region.binds md e = true → e.on ≠ i := fun e he hb heq => by
        have h1 := hall e he hb
        have h0 := (mem_ready.1 hr).1
        rw [heq] at h1
        rcases Nat.lt_or_ge i listed.size with h' | h'
        · simp [h'] at h0 h1; rw [h0] at h1; cases h1
        · simp [Array.getElem?_eq_none h'] at h1
      have h2 := wpOp_putG hoj (hfree j oj hoj hji hjun hnot) (fun cs b => hsel i oi cs b hi) (fun cs b => hsel j oj cs b hoj) hQ hy h1
      have hfree' : ∀ k ok, ops[k]? = some ok → k ≠ i → (listed.setIfInBounds j true).getD k true = false →
          (∀ e ∈ ok.after, Region.binds md e = true → e.on ≠ i) → oi.apart ops ok = true := fun k ok hk hki hun hno => by
        refine hfree k ok hk hki ?_ hno
        by_cases hjk : j = k
        · subst hjk; exact hjun
        · rw [getD_set_ne true hjk] at hun; exact hun
      obtain ⟨hs, hinv'⟩ := hInv listed hinv (mem_ready.1 hr).1 j hj hji
      refine wpOp_mono (fun a' w'' h3 => ⟨h3.2.1, ih (listed.setIfInBounds j true) a' w'' hinv' hfree' (ready_mono hr (Ne.symm hji)) (h3.1.up ht (hs _ _ h3.2.1)) ?_⟩) h2
      rw [Array.setIfInBounds_comm _ _ hji]
      exact h3.2.2
/-- None of D can be taken as long as i is not. -/
def blocks (md : Region.Mode) (ops : Array Oper) (D : List Nat) (i : Nat) : Bool := D.all fun d => match ops[d]? with
  | some o => o.after.any fun e => Region.binds md e && (e.on == i || D.contains e.on)
  | none => false
theorem blocks_spec {i : Nat} (h : blocks md ops D i = true) {listed : Array Bool} (hi : listed.getD i true = false) (hD : ∀ d ∈ D, listed.getD d true = false) {j : Nat} (hj : j ∈ Region.ready md ops listed) : j ∉ D := fun hjD => by
  obtain ⟨_, o, ho, hall⟩ := mem_ready.1 hj
  unfold blocks at h
  rw [List.all_eq_true] at h
  have h1 := h j hjD
  rw [ho] at h1
  simp only [Array.any_eq_true] at h1
  obtain ⟨k, hk, he⟩ := h1
  simp only [Bool.and_eq_true, Bool.or_eq_true, beq_iff_eq] at he
  have hl := hall o.after[k] (Array.getElem_mem hk) he.1
  have no : ∀ x, listed.getD x true = false → listed.getD x false = true → False := fun x h0 h1 => by
    rcases Nat.lt_or_ge x listed.size with h' | h'
    · simp [h'] at h0 h1; rw [h0] at h1; cases h1
    · simp [Array.getElem?_eq_none h'] at h1
  rcases he.2 with e | e
  · rw [e] at hl
    exact no i hi hl
  · exact no _ (hD _ (by simpa using e)) hl
end

section
variable {P : Program} {l : List Oper} {Q : Exit → Act → World → Prop} {fuel : Nat} {listed : Array Bool} {a : Act} {w : World} {R1 R2 S : World → World → Prop} {D : List Nat}
/-- What is read ahead of those of D: none of B, among which they are, can be taken as long as it is not. -/
theorem anyU_val (hp : Pre R1) (i : Nat) (B : List Nat) {oi : Oper} (hi : nthOp l i = some oi) (hiD : D.contains i = false) (hsub : D.all (fun d => B.contains d) = true) (hbl : blocks .any l.toArray B i = true) (hun : B.all (fun d => !(listed.getD d true)) = true)
    (hs : Region.noSelect l.toArray = true) (hf : Region.free .any l.toArray listed i = true) (hr : (Region.ready .any l.toArray listed).contains i = true)
    (hQ : ∀ v c a w, Q (.panic c) (a.put oi.dst v) w → Q (.panic c) a w) (hg : Region.wanted oi (yielded l.toArray a.tmps) = true)
    (h : ∃ v, (∀ w', R1 w w' → (execOp a.eval oi).run P w' = .ok (.value v) w') ∧ wpAnyU P .any l.toArray Q R1 R2 D fuel (listed.setIfInBounds i true) (a.put oi.dst v) w) : wpAnyU P .any l.toArray Q R1 R2 D (fuel + 1) listed a w := by
  obtain ⟨v, h1, h2⟩ := h
  have hi' : l.toArray[i]? = some oi := by rw [← hi, nthOp_eq]; simp
  have hunp : ∀ d ∈ B, listed.getD d true = false := fun d hd => by
    have := List.all_eq_true.1 hun d hd
    simpa using this
  refine wpAnyU_first (S := R1) hp.1 hp.2 hi' (fun w => Rj_out hiD (hp.1 w)) (Region.noSelect_spec hs) (hQ v) (fun listed => ∀ d ∈ B, listed.getD d true = false) ?_ fuel listed a w hunp (Region.free_spec hi' hf) (by simpa using hr) ⟨hg, h1⟩ h2
  intro listed' hinv hiu j hj hji
  have hjB := blocks_spec hbl hiu hinv hj
  have hjD : j ∉ D := fun hd => hjB (by simpa using List.all_eq_true.1 hsub j hd)
  have hjc : D.contains j = false := by cases hc : D.contains j with | false => rfl | true => exact absurd (by simpa using hc) hjD
  refine ⟨fun w w' hR => by unfold Rj at hR; rw [if_neg (by rw [hjc]; simp)] at hR; exact hR, fun d hd => ?_⟩
  by_cases hdj : j = d
  · subst hdj; exact absurd hd hjB
  · rw [getD_set_ne true hdj]; exact hinv d hd
theorem anyU_begin {id : Nat} (n : Nat) (hn : l.length = n) (hm : P.follows .mixedOrders = true)
    (h : wpAnyU P .any l.toArray Q R1 R2 D n (Array.replicate n false) a w.drew) : (Code.region id l.toArray true).wp P Q a w := by
  subst hn
  refine wp_region_any hm (wpAny_of_U (R1 := R1) (R2 := R2) (D := D) _ _ _ _ ?_)
  simpa using h
theorem anyU_done (hr : Region.ready .any l.toArray listed = []) (h : Q .normal a w) : wpAnyU P .any l.toArray Q R1 R2 D fuel listed a w := by
  cases fuel with
  | zero => exact ⟨hr, h⟩
  | succ n => exact ⟨fun _ => h, by rw [hr]; simp⟩
theorem anyU_one (i : Nat) {oi : Oper} (hi : nthOp l i = some oi) (hr : Region.ready .any l.toArray listed = [i]) (hg : Region.wanted oi (yielded l.toArray a.tmps) = true)
    (h1 : oi.wp P a w (fun a' w'' => Rj R1 R2 D i w w'' ∧ wpAnyU P .any l.toArray Q R1 R2 D fuel (listed.setIfInBounds i true) a' w'') Q) :
    wpAnyU P .any l.toArray Q R1 R2 D (fuel + 1) listed a w := by
  have hi' : l.toArray[i]? = some oi := by rw [← hi, nthOp_eq]; simp
  refine ⟨fun h0 => (by rw [hr] at h0; cases h0), fun k hk => ?_⟩
  rw [hr] at hk
  unfold wpOp
  obtain rfl : k = i := by simpa using hk
  rw [hi']; simp only [hg, if_true]; exact .inl h1
end
end Go.Proofs.YtibjgaelaijgpaaGreatDoor

/- A region that draws its order, in a round of a range over a function. -/
namespace Go.Proofs.YtibjgaelaijgpaaGreatDoor
open Go.RowKit Go.Shelf
set_option maxRecDepth 100000
set_option linter.unusedVariables false

def calmQ (Q : Act → World → Prop) : Exit → Act → World → Prop := fun e a w => e = .normal ∧ Q a w
theorem calmQ_out {Q : Act → World → Prop} (h : LetsOut (calmQ Q)) : False := by
  have := h
  simp [LetsOut, calmQ] at this
theorem opIn_round {P : Program} {o : Oper} {a : Act} {w : World} {K : Act → World → Prop} {Q : Exit → Act → World → Prop} (l n : Nat) (hd : ∀ c, o.op ≠ .defer c) (h : o.wp P a w K Q) : o.wpIn (Fence.wide.inRound l) n P a w K Q := by
  unfold Oper.wpIn
  refine ⟨fun _ _ => trivial, ?_⟩
  rw [show (Fence.wide.inRound l).round = some l from rfl, Oper.semAt_some l _ _ hd]
  unfold Oper.wp at h
  generalize (execOp a.eval o).run P w = r at *
  cases r with
  | ok x w' =>
    cases x with
    | enter f args => exact ⟨(fun h0 => by cases h0), CallsIn.inRound l (callsIn_wide.2 h)⟩
    | row r args => exact ⟨(fun h0 => by cases h0), fun c cs _ => let ⟨v, w2, r1, s1⟩ := h c cs; ⟨v, w2, r1, stepsIn_wide.2 s1⟩⟩
    | value v => exact h
    | skip => exact h
    | defer d => exact h
    | round a b c d e => exact h.elim
    | _ => exact h.elim
  | halt x w' => cases x <;> exact h
theorem wpAnyIn_round {P : Program} {md : Region.Mode} {ops : Array Oper} {Q : Act → World → Prop} (l n : Nat) (hd : ∀ (i : Nat) (o : Oper), ops[i]? = some o → ∀ c, o.op ≠ .defer c) : ∀ (fuel : Nat) (listed : Array Bool) (a : Act) (w : World),
    wpAny P md ops (calmQ Q) fuel listed a w → wpAnyIn (Fence.wide.inRound l) n P md ops (calmQ Q) fuel listed a w
  | 0, _, _, _, h => h
  | fuel + 1, listed, a, w, h => ⟨h.1, fun i hi => by
    have h2 := h.2 i hi
    unfold wpOp at h2
    unfold wpOpIn
    cases ho : ops[i]? with
    | none => rw [ho] at h2; exact wpAnyIn_round l n hd fuel _ _ _ h2
    | some o =>
      rw [ho] at h2
      simp only at h2 ⊢
      split
      · rename_i hw
        rw [if_pos hw] at h2
        rcases h2 with h2 | h2
        · exact Oper.wpIn_mono (fun a' w' h' => wpAnyIn_round l n hd fuel _ a' w' h') (opIn_round l n (hd i o ho) h2)
        · exact (calmQ_out h2.2).elim
      · rename_i hw
        rw [if_neg hw] at h2
        exact ⟨fun _ _ => trivial, wpAnyIn_round l n hd fuel _ _ _ h2⟩⟩
variable {P : Program} {R : World → World → Prop} {w : World} {a : Act} {ops : List Oper}
theorem anyU_beginIn {R1 R2 : World → World → Prop} {D : List Nat} {id : Nat} {Q : Exit → Act → World → Prop} {l₀ m : Nat} (n : Nat) (hn : ops.length = n) (hm : P.follows .mixedOrders = true) (hd : ∀ (i : Nat) (o : Oper), ops[i]? = some o → ∀ c, o.op ≠ .defer c)
    (h : wpAnyU P .any ops.toArray (calmQ (Q .normal)) R1 R2 D n (Array.replicate n false) a w.drew) : (Code.region id ops.toArray true).wpIn (Fence.wide.inRound l₀) m P Q a w := by
  subst hn
  refine wpIn_mono (wpIn_region_any hm (wpAnyIn_round l₀ m (fun i o ho => hd i o (by simpa using ho)) _ _ _ _ (wpAny_of_U (R1 := R1) (R2 := R2) (D := D) _ _ _ _ ?_))) (fun e a w h => by obtain ⟨rfl, h⟩ := h; exact h)
  simpa using h
theorem anyU_two {R1 R2 : World → World → Prop} {D : List Nat} {fuel : Nat} {listed : Array Bool} {Q : Exit → Act → World → Prop} (i j : Nat) {oi oj : Oper} (hi : nthOp ops i = some oi) (hj : nthOp ops j = some oj) (hr : Region.ready .any ops.toArray listed = [i, j]) (gi : Region.wanted oi (yielded ops.toArray a.tmps) = true) (gj : Region.wanted oj (yielded ops.toArray a.tmps) = true)
    (h1 : oi.wp P a w (fun a' w'' => Rj R1 R2 D i w w'' ∧ wpAnyU P .any ops.toArray Q R1 R2 D fuel (listed.setIfInBounds i true) a' w'') Q)
    (h2 : oj.wp P a w (fun a' w'' => Rj R1 R2 D j w w'' ∧ wpAnyU P .any ops.toArray Q R1 R2 D fuel (listed.setIfInBounds j true) a' w'') Q) :
    wpAnyU P .any ops.toArray Q R1 R2 D (fuel + 1) listed a w := by
  have hi' : ops.toArray[i]? = some oi := by rw [← hi, nthOp_eq]; simp
  have hj' : ops.toArray[j]? = some oj := by rw [← hj, nthOp_eq]; simp
  refine ⟨fun h0 => (by rw [hr] at h0; cases h0), fun k hk => ?_⟩
  rw [hr] at hk
  unfold wpOp
  rcases List.mem_cons.1 hk with rfl | hk
  · rw [hi']; simp only [gi, if_true]; exact .inl h1
  · obtain rfl : k = j := by simpa using hk
    rw [hj']; simp only [gj, if_true]; exact .inl h2
/-- No operation of these is put off. -/
def noDefer : List Oper → Bool
  | [] => true
  | o :: r => (match o.op with | .defer _ => false | _ => true) && noDefer r
theorem noDefer_spec : ∀ {l : List Oper}, noDefer l = true → ∀ (i : Nat) (o : Oper), l[i]? = some o → ∀ c, o.op ≠ .defer c
  | [], _, i, o, h, c => by simp at h
  | x :: r, hn, 0, o, h, c => by
    simp at h
    subst h
    intro e
    simp [noDefer, e] at hn
  | x :: r, hn, i + 1, o, h, c => by
    simp [noDefer] at hn
    exact noDefer_spec hn.2 i o (by simpa using h) c
/-- append of a text, by what it yields. -/
theorem wp_appT {o : Oper} {K : Act → World → Prop} {Q : Exit → Act → World → Prop} (s x : Operand) (t u : TypeId) (hop : o.op = Op.call { callee := Callee.builtin Builtin.append, args := #[s, x], argTypes := #[t, u] })
    (v sx : Value) (hs : a.eval s = v) (hx : a.eval x = sx) (v' : Value) (w' : World) (hrun : (Builtin.append_ #[t, u] o.type #[v, sx]).run P w = .ok v' w') (hK : K (a.put o.dst v') w') : o.wp P a w K Q := by
  unfold Oper.wp
  simp [execOp, hop, resolve, invoke, builtin, hs, hx, hrun, Result.andThen]
  exact hK
end Go.Proofs.YtibjgaelaijgpaaGreatDoor

/- Package sip: the lines of a text, one after the other. -/
namespace Go.Proofs.YtibjgaelaijgpaaGreatDoor
open Go.RowKit Go.Shelf
set_option maxRecDepth 100000
attribute [local go_sem] Oper.semAt_some
set_option linter.unusedVariables false
set_option linter.unusedSimpArgs false

def crB : ByteArray := ⟨#[13, 10]⟩
theorem ba_len (s : ByteArray) : s.size = s.data.toList.length := by rw [Array.length_toList]; rfl
theorem ba_ext {s t : ByteArray} (h : s.data.toList = t.data.toList) : s = t := by
  cases s; cases t; simp only at h; congr 1; exact Array.toList_inj.1 h
theorem cutA_data (s p : ByteArray) : (cutA s p).data.toList = (Lib.cut s.data.toList p.data.toList).1 := by unfold cutA; simp
theorem cutZ_data (s p : ByteArray) : (cutZ s p).data.toList = (Lib.cut s.data.toList p.data.toList).2.1 := by unfold cutZ; simp
/-- What cutting tells: the parts, and nothing of the kind ahead. -/
theorem cut_spec (s p : ByteArray) : (cutF s p = true ∧ s.data.toList = (cutA s p).data.toList ++ (p.data.toList ++ (cutZ s p).data.toList) ∧ Lib.NoOcc s.data.toList p.data.toList (cutA s p).size) ∨
    (cutF s p = false ∧ cutA s p = s ∧ cutZ s p = ⟨#[]⟩ ∧ ∀ j, j ≤ s.size → Lib.occAt s.data.toList p.data.toList j = false) := by
  rw [ba_len, ba_len, cutA_data, cutZ_data]
  have h3 : cutF s p = (Lib.cut s.data.toList p.data.toList).2.2 := rfl
  rw [h3]
  rcases Lib.index_spec s.data.toList p.data.toList with ⟨h1, h2⟩ | ⟨i, h1, h2, ho, hn⟩
  · refine .inr ?_
    have hc : Lib.cut s.data.toList p.data.toList = (s.data.toList, [], false) := by unfold Lib.cut; rw [if_neg (by omega)]
    refine ⟨by rw [hc], ba_ext (by rw [cutA_data, hc]), ba_ext (by rw [cutZ_data, hc]), h2⟩
  · refine .inl ?_
    have hc : Lib.cut s.data.toList p.data.toList = (s.data.toList.take i, s.data.toList.drop (i + p.data.toList.length), true) := by unfold Lib.cut; rw [if_pos (by omega), h1]; rfl
    rw [hc]
    refine ⟨rfl, ?_, by simp only [List.length_take]; rw [Nat.min_eq_left h2]; exact hn⟩
    simp only
    unfold Lib.occAt at ho
    obtain ⟨t, ht⟩ := List.isPrefixOf_iff_prefix.1 ho
    have : s.data.toList.drop (i + p.data.toList.length) = t := by
      rw [← List.drop_drop, ← ht, List.drop_left]
    rw [this, ht, List.take_append_drop]
/-- What stands between the two parts. -/
def betw (s p : ByteArray) : ByteArray := s.extract (cutA s p).size (s.size - (cutZ s p).size)
theorem cut_sizes (s p : ByteArray) : (cutA s p).size + (cutZ s p).size ≤ s.size ∧ (s.size ≠ 0 → p.size ≠ 0 → (cutZ s p).size < s.size) := by
  rcases cut_spec s p with ⟨_, h, _⟩ | ⟨_, h1, h2, _⟩
  · have := congrArg List.length h
    rw [List.length_append, List.length_append, ← ba_len, ← ba_len, ← ba_len, ← ba_len] at this
    omega
  · rw [h1, h2]
    have : ByteArray.size ⟨#[]⟩ = 0 := rfl
    omega
/-- A text's lines, with what ends each. -/
def lnsF : Nat → ByteArray → List (ByteArray × ByteArray)
  | 0, _ => []
  | n + 1, s => if s.size = 0 then [] else (cutA s crB, betw s crB) :: lnsF n (cutZ s crB)
def lnsB (s : ByteArray) : List (ByteArray × ByteArray) := lnsF s.size s
theorem lnsF_fuel : ∀ (n m : Nat) (s : ByteArray), s.size ≤ n → s.size ≤ m → lnsF n s = lnsF m s
  | 0, 0, s, _, _ => rfl
  | 0, m + 1, s, h, _ => by unfold lnsF; rw [if_pos (by omega)]
  | n + 1, 0, s, _, h => by unfold lnsF; rw [if_pos (by omega)]
  | n + 1, m + 1, s, h1, h2 => by
    unfold lnsF
    split
    · rfl
    · have := (cut_sizes s crB).2 (by assumption) (by decide)
      rw [lnsF_fuel n m (cutZ s crB) (by omega) (by omega)]
theorem lnsB_nil {s : ByteArray} (h : s.size = 0) : lnsB s = [] := by unfold lnsB; rw [h]; rfl
theorem lnsB_cons {s : ByteArray} (h : s.size ≠ 0) : lnsB s = (cutA s crB, betw s crB) :: lnsB (cutZ s crB) := by
  have hz := (cut_sizes s crB).2 h (by decide)
  unfold lnsB
  obtain ⟨n, hn⟩ : ∃ n, s.size = n + 1 := ⟨s.size - 1, by omega⟩
  rw [hn]
  have e : lnsF (n + 1) s = (cutA s crB, betw s crB) :: lnsF n (cutZ s crB) := by
    show (if s.size = 0 then [] else _) = _
    rw [if_neg h]
  rw [e]
  congr 1
  exact lnsF_fuel n (cutZ s crB).size (cutZ s crB) (by omega) (Nat.le_refl _)

theorem lines_in (n : Nat) (s : ByteArray) (w : World) :
    CallsIn Fence.wide n Tryz.prog 53 #[.string s] w fun e w' => e = .returned (.func (.func 65) #[] #[.pointer (some ⟨w.heap.size, 0, none⟩)]) ∧ w' = w.alloc (.cells #[.string s] 9) := by
  refine callsIn_of_wp Tryz.func53 rfl trivial ?_ rfl
  simp only [Tryz.ntmps53, List.size_toArray, List.length_cons, List.length_nil, Nat.reduceAdd, Nat.reduceSub, Array.replicate_succ, Array.replicate_zero, List.push_toArray, List.append_toArray, List.nil_append, List.cons_append]
  gi_wp2
  go_ret
  exact ⟨rfl, rfl⟩

def encL (r : ByteArray × ByteArray) : Array Value := #[.string r.1, .string r.2]
def XL (l : List (ByteArray × ByteArray)) (pre : List (ByteArray × ByteArray)) (x : ByteArray × ByteArray) (_V : World) : Prop := ∃ rest, pre ++ x :: rest = l

set_option maxRecDepth 100000 in
set_option maxHeartbeats 4000000 in
theorem lines1_in (n : Nat) (hn : 1 ≤ n) (l B : Nat) (s : ByteArray) (w0 : World) (hM : TabM w0) (hs : s.size ≤ 1000000) (J Jx : List (ByteArray × ByteArray) → World → Prop) (hJ : ∀ s A B, J s A → Later A B → J s B)
    (hY : ∀ pre x V, J pre V → XL (lnsB s) pre x V → YieldAt Fence.wide (n - 1) Tryz.prog l (encL x) V fun e V' => (e = .returned (.bool true) ∧ J (pre ++ [x]) V' ∧ Below w0.heap.size V V') ∨ (e = .returned (.bool false) ∧ Jx (pre ++ [x]) V'))
    (W : World) (hB : W.cell? ⟨B, 0, none⟩ = some (.string s)) (hW : Later w0 W) (h0 : J [] W) :
    CallsIn Fence.wide n Tryz.prog 65 #[.func (.yield l) #[] #[], .pointer (some ⟨B, 0, none⟩)] W fun e W' => (∃ v, e = .returned v) ∧ ((∃ xs, xs = lnsB s ∧ J xs W') ∨ (∃ pre, (∃ rest, pre ++ rest = lnsB s) ∧ Jx pre W')) := by
  refine callsIn_of_wp Tryz.func65 rfl trivial ?_ rfl
  simp only [Tryz.ntmps65, List.size_toArray, List.length_cons, List.length_nil, Nat.reduceAdd, Nat.reduceSub, Array.replicate_succ, Array.replicate_zero, List.push_toArray, List.append_toArray, List.nil_append, List.cons_append]
  gi_wp2
  clear hB
  gi_loopw [3] (fun i wx => ∃ (pre : List (ByteArray × ByteArray)) (t : ByteArray), i = .string t ∧ t.size ≤ 1000000 ∧ Hid (pre ++ lnsB t = lnsB s) ∧ J pre wx ∧ Later w0 wx) (fun i _ => match i with | .string t => t.size | _ => 0)
  case atStart => exact ⟨[], s, rfl, hs, rfl, h0, hW⟩
  case round =>
    obtain ⟨pre, t, rfl, ht, hpre, hJk, hLk⟩ := hrel
    by_cases hz : t.size = 0
    · have hp2 := hpre.out
      rw [lnsB_nil hz, List.append_nil] at hp2
      have HP2 := hide hp2
      obtain rfl := str_empty t hz
      clear hp2 hpre
      gi_wp2
      go_end0
      exact ⟨⟨_, rfl⟩, .inl ⟨_, HP2.out, hJk⟩⟩
    · have he := str_ne hz
      have hc := cut_sizes t crB
      have hp2 := hpre.out
      rw [lnsB_cons hz] at hp2
      have HP2 := hide hp2
      have HCT := hide ((callsIn_wide (n := n - 1)).2 (cut_any t crB wr (hM.later hLk) ht))
      have hc1 := hc.1
      have hc2 := hc.2 hz (by decide)
      have HBE : Hid (betw t crB = t.extract (cutA t crB).size (t.size - (cutZ t crB).size)) := rfl
      clear hpre hp2 hc hz
      generalize betw t crB = bt at *
      generalize cutA t crB = ca at *
      generalize cutZ t crB = cz at *
      generalize cutF t crB = cf at *
      have hsz' : (t.size : Int) ≤ 1000000 := by omega
      gi_wp2
      refine ⟨trivial, ?_⟩
      refine HCT.out.mono ?_
      rintro e w3 ⟨rfl, l3⟩
      obtain ⟨fn, tmps, assign, body, hy, hRr⟩ := hY _ (ca, bt) _ (hJ _ _ _ hJk l3) ⟨_, HP2.out⟩
      dsimp only [encL] at hy
      have HRR := hide hRr
      rw [HBE.out] at hy
      have h1 : (ca.size : Int) ≤ (t.size : Int) - (cz.size : Int) := by omega
      have h2 : (t.size : Int) - (cz.size : Int) = ((t.size - cz.size : Nat) : Int) := by omega
      have h3 : t.size - cz.size ≤ t.size := by omega
      have h4 : ca.size ≤ t.size - cz.size := by omega
      clear HCT hRr
      gi_wp2
      refine HRR.out.mono ?_
      rintro e W3 (⟨rfl, hJ3, hk3⟩ | ⟨rfl, hJx3⟩)
      · gi_wp2
        go_roundw
        case rel => exact ⟨pre ++ [(ca, bt)], cz, rfl, by omega, by (show _ = _; rw [List.append_assoc]; exact HP2.out), hJ3, Below.trans (hLk.trans l3) hk3⟩
        case measure => (show cz.size < t.size); exact hc2
      · gi_wp2
        refine bodyPost_ret (results_none rfl _ _ _) rfl ?_
        exact ⟨⟨_, rfl⟩, .inr ⟨_, ⟨lnsB cz, by rw [List.append_assoc]; exact HP2.out⟩, hJx3⟩⟩

theorem lines_gen (n : Nat) (hn : 1 ≤ n) (B : Nat) (s : ByteArray) (w0 w : World) (hM : TabM w0) (hs : s.size ≤ 1000000) (hw : Later w0 w) (hBl : B < w.heap.size) (hB : w.cell? ⟨B, 0, none⟩ = some (.string s)) :
    GenX Fence.wide n Tryz.prog 65 #[.pointer (some ⟨B, 0, none⟩)] encL (Below w0.heap.size) (XL (lnsB s)) (fun xs => xs = lnsB s) (fun pre => ∃ rest, pre ++ rest = lnsB s) w := fun l J Jx W hW hJ hY h0 =>
  lines1_in n hn l B s w0 hM hs J Jx hJ hY W ((hW.cell (p := ⟨B, 0, none⟩) hBl).trans hB) (hw.trans hW) h0
end Go.Proofs.YtibjgaelaijgpaaGreatDoor

/- Package sip: a body, changed line by line. -/
namespace Go.Proofs.YtibjgaelaijgpaaGreatDoor
open Go.RowKit Go.Shelf
set_option maxRecDepth 100000
attribute [local go_sem] Oper.semAt_some
set_option linter.unusedVariables false
set_option linter.unusedSimpArgs false

def CTs (A B : World) : Prop := A.heap.size ≤ B.heap.size ∧ ∀ (k : Nat) (o : Obj), A.heap[k]? = some o → o.isCells = true → B.heap[k]? = some o
theorem CTs.of {A B : World} (h : Later A B) : CTs A B := ⟨h.size, fun k o ho _ => later_keep h ho⟩
theorem CTs.row {A B : World} {row : Option Nat} (hg : A.grownBy B row) (hr : ∀ r, row = some r → ∃ o : Obj, A.heap[r]? = some o ∧ o.isCells = false) : CTs A B :=
  ⟨hg.size, fun k o ho hc => (hg.block k (Array.getElem?_eq_some_iff.1 ho).1 (fun e => by obtain ⟨o', h1, h2⟩ := hr k e.symm; rw [ho] at h1; cases h1; rw [hc] at h2; cases h2)).trans ho⟩
theorem CTs.put {A : World} {l : Nat} {o o' : Obj} (h : A.heap[l]? = some o) (hc : o.isCells = false) : CTs A (A.putObj l o') :=
  CTs.row (grownBy_putObj' A l o') (fun r e => by cases e; exact ⟨o, h, hc⟩)
theorem ownsS_ct {base : Nat} {e : TypeId} {size : Nat} {A B : World} {v : Value} {n : Nat} {xs : List Value} (h : A.ownsRow base e size v n xs) (c : CTs A B) : B.ownsRow base e size v n xs := by
  obtain ⟨h1, h2 | ⟨g, cap, cur, hv, hg, hh, r⟩⟩ := h
  · exact ⟨h1, .inl h2⟩
  · exact ⟨h1, .inr ⟨g, cap, cur, hv, hg, c.2 _ _ hh rfl, r⟩⟩

/-- Lines, changed, one behind the other. -/
def bdL (c : Cg) (ls : List (ByteArray × ByteArray)) : ByteArray := ls.foldl (fun b x => b ++ (lnB c x.1 ++ x.2)) ⟨#[]⟩
theorem bdL_snoc (c : Cg) (l : List (ByteArray × ByteArray)) (x : ByteArray × ByteArray) : bdL c (l ++ [x]) = bdL c l ++ (lnB c x.1 ++ x.2) := by unfold bdL; simp
def bdB (c : Cg) (s : ByteArray) : ByteArray := bdL c (lnsB s)
theorem lnB_size (c : Cg) (hc : c.wf) (l : ByteArray) : (lnB c l).size ≤ 2 * l.size + 2010 := by
  obtain ⟨⟨h1, h2⟩, _, _, h5⟩ := hc
  unfold lnB
  split
  · rw [ByteArray.size_append]; have : cnB.size = 9 := rfl; omega
  split
  · rw [ByteArray.size_append]; have := tsB_size l c.host; omega
  cases hm : mdO l with
  | none => simp only [mlB]; omega
  | some m =>
    obtain ⟨a, p, b⟩ := m
    simp only [mlB]
    obtain ⟨q1, q2, q3⟩ := mdO_size hm
    have hd := decB_size (inB c.media p).toNat (by have := inB_rng h5 q3; omega)
    rw [ByteArray.size_append, ByteArray.size_append]
    omega
def nvs (r : ByteArray) : List Value := (nmsB r).map (Value.int .u8)
theorem nvs_str (r : ByteArray) : nvs r = Lib.strCells r := by unfold nvs nmsB Lib.strCells; rw [List.map_map]; rfl
theorem nvs_app (s t : ByteArray) : nvs (s ++ t) = nvs s ++ nvs t := by unfold nvs nmsB; simp
/-- Every line is a part of the text. -/
theorem lnsF_mem : ∀ (n : Nat) (s : ByteArray) (x : ByteArray × ByteArray), x ∈ lnsF n s → x.1.size ≤ s.size ∧ x.2.size ≤ s.size
  | 0, s, x, h => by cases h
  | n + 1, s, x, h => by
    unfold lnsF at h
    split at h
    · cases h
    · have hz := cut_size s crB
      rcases List.mem_cons.1 h with rfl | h
      · refine ⟨hz.1, ?_⟩
        unfold betw
        rw [ByteArray.size_extract]
        omega
      · have := lnsF_mem n _ x h
        omega
theorem lnsF_len : ∀ (n : Nat) (s : ByteArray), (lnsF n s).length ≤ n
  | 0, s => Nat.le_refl _
  | n + 1, s => by
    unfold lnsF
    split
    · simp
    · have := lnsF_len n (cutZ s crB)
      simp only [List.length_cons]
      omega
theorem bdL_size (c : Cg) (hc : c.wf) (k : Nat) : ∀ (n : Nat) (l : List (ByteArray × ByteArray)), l.length = n → (∀ x ∈ l, x.1.size ≤ k ∧ x.2.size ≤ k) → (bdL c l).size ≤ n * (3 * k + 2010)
  | 0, l, hl, _ => by
    rw [List.length_eq_zero_iff.1 hl]
    exact Nat.zero_le _
  | n + 1, l, hl, h => by
    rcases List.eq_nil_or_concat l with rfl | ⟨l', x, e⟩
    · cases hl
    rw [List.concat_eq_append] at e
    subst e
    have h1 := bdL_size c hc k n l' (by simpa using hl) (fun y hy => h y (List.mem_append_left _ hy))
    have h2 := h x (List.mem_append_right _ (List.mem_singleton_self x))
    have h3 := lnB_size c hc x.1
    rw [bdL_snoc, ByteArray.size_append, ByteArray.size_append, Nat.add_mul, Nat.one_mul]
    omega

/-- What body keeps while it goes along the lines. -/
def PB14 (rb base : Nat) (c : Cg) (mv : Value) (pre : List (ByteArray × ByteArray)) (W : World) : Prop :=
  (∃ v, W.heap[rb + 1]? = some (.cells #[v] 23 (0, 0)) ∧ W.ownsRow base 5 1 v (bdL c pre).size (nvs (bdL c pre))) ∧ W.heap[rb]? = some (.cells #[.string c.host, .string c.is, .int .u16 c.port, .int .u16 c.np, mv] 64 (0, 0))
theorem PB14.ct {rb base : Nat} {c : Cg} {mv : Value} {pre : List (ByteArray × ByteArray)} {A B : World} (h : PB14 rb base c mv pre A) (k : CTs A B) : PB14 rb base c mv pre B := by
  obtain ⟨⟨v, h1, h2⟩, h3⟩ := h
  exact ⟨⟨v, k.2 _ _ h1 rfl, ownsS_ct h2 k⟩, k.2 _ _ h3 rfl⟩
theorem owns_form {W : World} {base : Nat} {e : TypeId} {size : Nat} {v : Value} {n : Nat} {xs : List Value} (h : W.ownsRow base e size v n xs) : ∃ a cap, v = .slice a n cap := by
  rcases h.2 with ⟨rfl, rfl⟩ | ⟨g, cap, cur, rfl, _⟩
  · exact ⟨_, _, rfl⟩
  · exact ⟨_, _, rfl⟩
theorem owns_blk {W : World} {base : Nat} {e : TypeId} {size : Nat} {v : Value} {n : Nat} {xs : List Value} (h : W.ownsRow base e size v n xs) : ∀ r, v.ownBlock = some r → ∃ cur, W.heap[r]? = some (.cells cur e (0, 0)) ∧ base ≤ r := fun r hr => by
  rcases h.2 with ⟨rfl, rfl⟩ | ⟨g, cap, cur, rfl, hg, hh, _⟩
  · cases hr
  · cases hr; exact ⟨cur, hh, hg⟩
theorem hsetS_ne {W : World} {n m j : Nat} {v : Value} {o : Obj} (h : W.heap[n]? = some o) (hne : n ≠ m) : (W.setCell ⟨m, j, none⟩ v).heap[n]? = some o := (Below.heap_setCell W ⟨m, j, none⟩ v n hne).trans h

set_option maxRecDepth 100000 in
set_option maxHeartbeats 8000000 in
theorem body_any (c : Cg) (mv sb : Value) (zb : List Int) (w : World) (hT : TabI w) (hM : TabM w) (hc : c.wf) (hI : RdP2 w.heap.size w mv c.media) (hB : Rd w.heap.size w sb zb) (hz : zb.length ≤ 4096) :
    Calls Tryz.prog 41 #[.agg #[.string c.host, .string c.is, .int .u16 c.port, .int .u16 c.np, mv], sb] w fun e w' => Later w w' ∧ ∃ v, e = .returned v ∧ w'.ownsRow w.heap.size 5 1 v (bdB c (strOfNums zb)).size (nvs (bdB c (strOfNums zb))) := by
  have hcv : ∀ W, Later w W → (convert 23 9 sb).run Tryz.prog W = .ok (.string (strOfNums zb)) W := fun W hW => conv_rd 23 9 5 Tryz.underlying23 Tryz.underlying5 Tryz.underlying9 (hB.below hW)
  have hss : (strOfNums zb).size ≤ 4096 := by rw [strOfNums_size]; exact hz
  unfold bdB
  generalize strOfNums zb = s at *
  refine (callsIn_wide (n := 5)).1 ?_
  refine callsIn_of_wp_marks Tryz.func41 rfl trivial ?_ rfl
  simp only [Tryz.ntmps41, List.size_toArray, List.length_cons, List.length_nil, Nat.reduceAdd, Nat.reduceSub, Array.replicate_succ, Array.replicate_zero, List.push_toArray, List.append_toArray, List.nil_append, List.cons_append]
  have hcv0 := hcv ((w.alloc (.cells #[.string c.host, .string c.is, .int .u16 c.port, .int .u16 c.np, mv] 64)).alloc (.cells #[.slice none 0 0] 23)) (((Below.refl _ _).alloc (Nat.le_refl _) _).alloc (by simp) _)
  have hb4 : Later w (((w.alloc (.cells #[.string c.host, .string c.is, .int .u16 c.port, .int .u16 c.np, mv] 64)).alloc (.cells #[.slice none 0 0] 23)).alloc (.cells #[.string s] 9)) := (((Below.refl _ _).alloc (Nat.le_refl _) _).alloc (by simp) _).alloc (by simp <;> omega) _
  have c0 : (((w.alloc (.cells #[.string c.host, .string c.is, .int .u16 c.port, .int .u16 c.np, mv] 64)).alloc (.cells #[.slice none 0 0] 23)).alloc (.cells #[.string s] 9)).heap[w.heap.size]? = some (.cells #[.string c.host, .string c.is, .int .u16 c.port, .int .u16 c.np, mv] 64) := (Below.heap_alloc _ _ _ (by simp <;> omega)).trans ((Below.heap_alloc _ _ _ (by simp)).trans (heap_alloc_new w _))
  have c1 : (((w.alloc (.cells #[.string c.host, .string c.is, .int .u16 c.port, .int .u16 c.np, mv] 64)).alloc (.cells #[.slice none 0 0] 23)).alloc (.cells #[.string s] 9)).heap[w.heap.size + 1]? = some (.cells #[.slice none 0 0] 23) := by
    have := heap_alloc_new (w.alloc (.cells #[.string c.host, .string c.is, .int .u16 c.port, .int .u16 c.np, mv] 64)) (.cells #[.slice none 0 0] 23)
    rw [World.size_alloc] at this
    exact (Below.heap_alloc _ _ _ (by simp)).trans this
  have c2 : (((w.alloc (.cells #[.string c.host, .string c.is, .int .u16 c.port, .int .u16 c.np, mv] 64)).alloc (.cells #[.slice none 0 0] 23)).alloc (.cells #[.string s] 9)).heap[w.heap.size + 1 + 1]? = some (.cells #[.string s] 9) := by
    have := heap_alloc_new ((w.alloc (.cells #[.string c.host, .string c.is, .int .u16 c.port, .int .u16 c.np, mv] 64)).alloc (.cells #[.slice none 0 0] 23)) (.cells #[.string s] 9)
    simpa only [World.size_alloc] using this
  have hs4 : (((w.alloc (.cells #[.string c.host, .string c.is, .int .u16 c.port, .int .u16 c.np, mv] 64)).alloc (.cells #[.slice none 0 0] 23)).alloc (.cells #[.string s] 9)).heap.size = w.heap.size + 1 + 1 + 1 := by simp
  have C0 := hide c0
  have C1 := hide c1
  have C2 := hide c2
  have HS4 := hide hs4
  clear c0 c1 c2 hs4 hcv
  gi_wp2_with (refine ⟨trivial, ?_⟩; gi_at_call 53; refine (lines_in _ _ _).mono ?_; rintro e w' ⟨rfl, rfl⟩)
  clear hcv0
  generalize ((w.alloc (.cells #[.string c.host, .string c.is, .int .u16 c.port, .int .u16 c.np, mv] 64)).alloc (.cells #[.slice none 0 0] 23)).alloc (.cells #[.string s] 9) = w4 at *
  have hs4 : w4.heap.size = w.heap.size + 1 + 1 + 1 := HS4.out
  refine wpIn_rangeX (w := w4) rfl (by omega) (gf := 65) (lb := #[.pointer (some ⟨w.heap.size + 1 + 1, 0, none⟩)]) rfl trivial (enters_of Tryz.func65 (by kernel_rfl) rfl)
    (lines_gen 4 (by omega) (w.heap.size + 1 + 1) s w w4 hM (by omega) hb4 (by omega) (block_cell C2.out 0))
    (fun h k => h.trans k) (fun W l o o' hl ho hc hw => belowK_b (w := w4) (by omega) W l o o' hl ho hc hw) (fun hA hL => hL.mono (by omega)) (fun _ _ _ _ h _ => h) (fun _ _ _ _ _ _ _ _ _ h => h) (fun _ => rfl)
    (fun pre W => PB14 w.heap.size (w.heap.size + 1 + 1) c mv pre W ∧ Below w.heap.size w W) (fun pre W => False)
    (OwnFrom.and (fun s A B row hs hg hr => hs.ct (CTs.row hg (fun r e => (hr r e).2))) (ownFrom_below (Nat.le_refl _) (by omega)))
    (fun s A B h l => ⟨h.1.ct (CTs.of l), h.2.trans (l.mono h.2.size)⟩)
    (fun s A B row hs hg hr => hs)
    ⟨⟨⟨.slice none 0 0, C1.out, rfl, .inl ⟨rfl, rfl⟩⟩, C0.out⟩, hb4⟩
    (fun x a' W => a' = { tmps := #[.agg #[.string c.host, .string c.is, .int .u16 c.port, .int .u16 c.np, mv], sb, .pointer (some ⟨w.heap.size, 0, none⟩), undef, .slice none 0 0, .pointer (some ⟨w.heap.size + 1, 0, none⟩), .string x.1, .string x.2, sb, .string s, .func (.func 65) #[] #[.pointer (some ⟨w.heap.size + 1 + 1, 0, none⟩)], .string x.1, .string x.2, undef, undef, undef, undef, undef, undef, undef, undef], defers := [] })
    (fun x a' W l o o' hl ho hc h => h) ?assign ?body ?done ?stop
  case assign =>
    rintro l pre x W K hsz _ hX hK
    dsimp only [encL]
    gi_wp2
    exact hK _ _ (Below.refl _ _) rfl
  case body =>
    rintro l pre x a' W ⟨⟨⟨v, hob, hOw⟩, hr0⟩, hbW⟩ hX rfl
    have hbsz := hbW.size
    have hxm : ∀ y ∈ pre ++ [x], y ∈ lnsB s := fun y hy => by
      obtain ⟨rest, e⟩ := hX
      rw [← e]
      rcases List.mem_append.1 hy with h | h
      · exact List.mem_append_left _ h
      · rw [List.mem_singleton.1 h]; exact List.mem_append_right _ (List.mem_cons_self ..)
    have hxs := fun y hy => lnsF_mem _ s y (hxm y hy)
    have hx1 := hxs x (List.mem_append_right _ (List.mem_singleton_self x))
    have hpl : pre.length ≤ 4096 := by
      obtain ⟨rest, e⟩ := hX
      have h1 := congrArg List.length e
      have h2 := lnsF_len s.size s
      unfold lnsB at h1
      simp at h1
      omega
    have hps := bdL_size c hc 4096 pre.length pre rfl (fun y hy => by have := hxs y (List.mem_append_left _ hy); omega)
    have hps2 : (bdL c pre).size ≤ 4096 * 14298 := Nat.le_trans hps (Nat.mul_le_mul_right _ hpl)
    have hln := lnB_size c hc x.1
    obtain ⟨va, vc, rfl⟩ := owns_form hOw
    have hnn := bdL_snoc c pre x
    have HNN := hide hnn
    have HX := hide hX
    clear hxs hxm hps hnn hX
    refine wpIn_block ?_
    refine anyU_beginIn (R1 := Later) (R2 := fun _ _ => True) (D := [6, 7]) 8 rfl (by kernel_rfl) (noDefer_spec (by rfl)) ?_
    have ld : Later W W.drew := Later.drew W
    generalize W.drew = Wd at *
    have HOB := hide (later_keep ld hob)
    have HR0 := hide (later_keep ld hr0)
    have HOW := hide (ownsS_ct hOw (CTs.of ld))
    have LWd : Later w Wd := Below.trans hbW (ld.mono hbsz)
    have qB : ∀ v1, Later Wd v1 → ∀ j, v1.cell? ⟨w.heap.size + 1, j, none⟩ = #[Value.slice va (bdL c pre).size vc][j]? := fun v1 hv => block_cell (later_keep hv HOB.out)
    have qC : ∀ v1, Later Wd v1 → ∀ j, v1.cell? ⟨w.heap.size, j, none⟩ = #[Value.string c.host, .string c.is, .int .u16 c.port, .int .u16 c.np, mv][j]? := fun v1 hv => block_cell (later_keep hv HR0.out)
    refine anyU_val Later.pre 0 [6, 7] rfl (by rfl) (by rfl) (by kernel_rfl) (by kernel_rfl) (by kernel_rfl) (by kernel_rfl) (by kernel_rfl) (fun _ _ _ _ h => by cases h.1) (by rfl) ?_; apply Exists.intro; refine ⟨fun v1 hv1 => ?_, ?_⟩; (· (go_simp; rfl)); simp only [Act.put, List.setIfInBounds_toArray, List.set_cons_zero, List.set_cons_succ]
    refine anyU_val Later.pre 1 [3, 5, 6, 7] rfl (by rfl) (by rfl) (by kernel_rfl) (by kernel_rfl) (by kernel_rfl) (by kernel_rfl) (by kernel_rfl) (fun _ _ _ _ h => by cases h.1) (by rfl) ?_; apply Exists.intro; refine ⟨fun v1 hv1 => ?_, ?_⟩; (· (go_simp; rfl)); simp only [Act.put, List.setIfInBounds_toArray, List.set_cons_zero, List.set_cons_succ]
    refine anyU_val Later.pre 2 [3, 5, 6, 7] rfl (by rfl) (by rfl) (by kernel_rfl) (by kernel_rfl) (by kernel_rfl) (by kernel_rfl) (by kernel_rfl) (fun _ _ _ _ h => by cases h.1) (by rfl) ?_; apply Exists.intro; refine ⟨fun v1 hv1 => ?_, ?_⟩; (· (go_simp; rfl)); simp only [Act.put, List.setIfInBounds_toArray, List.set_cons_zero, List.set_cons_succ]
    refine anyU_val Later.pre 4 [5, 6, 7] rfl (by rfl) (by rfl) (by kernel_rfl) (by kernel_rfl) (by kernel_rfl) (by kernel_rfl) (by kernel_rfl) (fun _ _ _ _ h => by cases h.1) (by rfl) ?_; apply Exists.intro; refine ⟨fun v1 hv1 => ?_, ?_⟩; (· (go_simp; rfl)); simp only [Act.put, List.setIfInBounds_toArray, List.set_cons_zero, List.set_cons_succ]
    clear qB qC
    refine anyU_one 3 rfl (by kernel_rfl) (by rfl) ?_
    refine wp_enter 54 #[.agg #[.string c.host, .string c.is, .int .u16 c.port, .int .u16 c.np, mv], .string x.1] (by go_simp) ?_
    refine (line_any c mv x.1 Wd (hT.later LWd) (hM.later LWd) hc (hI.later LWd) (by omega)).mono ?_
    rintro e W1 ⟨rfl, l1⟩
    refine ⟨Rj_out (by rfl) l1, ?_⟩
    simp only [Act.put, List.setIfInBounds_toArray, List.set_cons_zero, List.set_cons_succ]
    refine anyU_one 5 rfl (by kernel_rfl) (by rfl) ?_
    refine wp_value (w' := W1) (.string (lnB c x.1 ++ x.2)) (by go_simp; omega) ?_
    refine ⟨Rj_out (by rfl) (Later.refl _), ?_⟩
    simp only [Act.put, List.setIfInBounds_toArray, List.set_cons_zero, List.set_cons_succ]
    refine anyU_one 6 rfl (by kernel_rfl) (by rfl) ?_
    have HOW1 := ownsS_ct HOW.out (CTs.of l1)
    obtain ⟨i0, hi0, hz0, hz1, hz2⟩ := info_partsS info_u8
    have hsz : (lnB c x.1 ++ x.2).size ≤ 20000 := by rw [ByteArray.size_append]; omega
    have hb1 : w.heap.size + 1 + 1 ≤ W1.heap.size := (Array.getElem?_eq_some_iff.1 (later_keep (ld.trans l1) hob)).1
    obtain ⟨v', W2, hrun, hrow, hg, _⟩ := Lib.run_append_own_string (P := Tryz.prog) W1 (w.heap.size + 1 + 1) 23 9 23 5 i0 Tryz.underlying23 Tryz.underlying9 hi0 hz0 hz1 hz2 _ _ _ HOW1 (lnB c x.1 ++ x.2) (by unfold maxLen; omega) (by omega) hb1
    refine wp_appT (.tmp 13) (.tmp 18) 23 9 rfl _ _ rfl rfl v' W2 hrun ?_
    refine ⟨Rj_in (by rfl) trivial, ?_⟩
    simp only [Act.put, List.setIfInBounds_toArray, List.set_cons_zero, List.set_cons_succ]
    obtain ⟨a2, cp2, rfl⟩ := owns_form hrow
    generalize hq : (bdL c pre).size + (lnB c x.1 ++ x.2).size = q at *
    have HQ := hide hq
    clear hq
    have hbk := owns_blk HOW1
    have hkp : ∀ i o, W1.heap[i]? = some o → (o.isCells = false ∨ i < w.heap.size + 1 + 1) → W2.heap[i]? = some o := fun i o ho hh => (hg.block i (Array.getElem?_eq_some_iff.1 ho).1 (fun e => by
      obtain ⟨cur, h1, h2⟩ := hbk i e.symm
      rw [ho] at h1
      cases h1
      rcases hh with h | h
      · cases h
      · omega)).trans ho
    have hob2 := hkp _ _ (later_keep l1 HOB.out) (.inr (by omega))
    have hr2 := hkp _ _ (later_keep l1 HR0.out) (.inr (by omega))
    have k2 := block_cell hob2
    have f2 := block_frozen hob2
    refine anyU_one 7 rfl (by kernel_rfl) (by rfl) ?_
    unfold Oper.wp
    go_simp
    refine ⟨Rj_in (by rfl) trivial, ?_⟩
    clear k2 f2
    refine anyU_done (by kernel_rfl) ?_
    generalize hvv : Value.slice a2 q cp2 = vv at *
    have hkeep : ∀ i o, W.heap[i]? = some o → (o.isCells = false ∨ i < w.heap.size + 1 + 1) → i ≠ w.heap.size + 1 → (W2.setCell ⟨w.heap.size + 1, 0, none⟩ vv).heap[i]? = some o := fun i o hi hh h2 => hsetS_ne (hkp i o (later_keep (ld.trans l1) hi) hh) h2
    have hsz2 : W.heap.size ≤ W2.heap.size := Nat.le_trans (ld.trans l1).size hg.size
    have hown2 : (W2.setCell ⟨w.heap.size + 1, 0, none⟩ vv).ownsRow (w.heap.size + 1 + 1) 5 1 vv (bdL c (pre ++ [x])).size (nvs (bdL c (pre ++ [x]))) := by
      rw [HNN.out, ByteArray.size_append, HQ.out, nvs_app, nvs_str (lnB c x.1 ++ x.2)]
      refine ⟨hrow.1, hrow.2.imp id ?_⟩
      rintro ⟨g, cp, cur, e1, e2, e3, r⟩
      exact ⟨g, cp, cur, e1, e2, hsetS_ne e3 (by omega), r⟩
    have hbn : Below w.heap.size W (W2.setCell ⟨w.heap.size + 1, 0, none⟩ vv) := ⟨hg.os.trans (ld.trans l1).os, hg.tape.trans (ld.trans l1).tape, hg.output.trans (ld.trans l1).output, by simp; omega, fun i hi => by
      cases hh : W.heap[i]? with
      | none => have := Array.getElem?_eq_none_iff.1 hh; omega
      | some o => exact hkeep i o hh (.inr (by omega)) (by omega)⟩
    refine ⟨rfl, ?_⟩
    show KeepsFrom _ _ _ ∧ Below _ _ _ ∧ _
    refine ⟨⟨by simp; omega, fun i o hi ho hc => hkeep i o ho (.inl hc) (by omega)⟩, hbn, ⟨⟨vv, heap_set1 hob2 0 _, hown2⟩, hkeep _ _ hr0 (.inr (by omega)) (by omega)⟩, hbW.trans hbn⟩
  case done =>
    rintro D xs W hD rfl ⟨⟨⟨v, h1, h2⟩, h3⟩, hbW⟩ hK
    obtain ⟨va, vc, rfl⟩ := owns_form h2
    have K1 := block_cell h1
    gi_wp2
    refine ⟨by simp, .inl ⟨_, _, rfl, run_takeDeferred hK, ?_⟩⟩
    refine ⟨.slice va (bdL c (lnsB s)).size vc, by simp [results, Tryz.results41, go_sem], hbW.trans (belowK_b (w := w) (Nat.le_refl _) W D _ _ (by omega) hK rfl rfl), _, rfl, ?_⟩
    obtain ⟨q1, q2⟩ := ownsS_ct h2 (CTs.put (o' := .deferred none) hK rfl)
    refine ⟨q1, q2.imp id ?_⟩
    rintro ⟨g, cp, cur, e1, e2, r⟩
    exact ⟨g, cp, cur, e1, by omega, r⟩
  case stop =>
    rintro D pre W hD _ h
    exact h.elim
end Go.Proofs.YtibjgaelaijgpaaGreatDoor

/- Package sip: a message, changed. -/
namespace Go.Proofs.YtibjgaelaijgpaaGreatDoor
open Go.RowKit Go.Shelf
set_option maxRecDepth 100000
set_option linter.unusedVariables false
set_option linter.unusedSimpArgs false

/-- Headers, changed, ahead of a body of so many bytes. -/
def mgH (c : Cg) (n : Nat) (hs : List Hr) : List Hr := hs.map fun h => (h.1, vuB c n h)
theorem mgH_take (c : Cg) (n : Nat) (hs : List Hr) (k : Nat) (hk : k < hs.length) : mgH c n (hs.take (k + 1)) = mgH c n (hs.take k) ++ [(hs[k].1, vuB c n hs[k])] := by
  unfold mgH
  rw [← List.take_append_getElem hk, List.map_append]
  rfl
theorem info_hdr : (Tryz.prog.info? 44).map (fun i => (i.zero, i.size, i.bytes)) = some (some (.agg #[.string ⟨#[]⟩, .string ⟨#[]⟩]), 2, 32) := by kernel_rfl
/-- What append to rows of headers leaves: blocks that are no such row. -/
theorem keep_row {W1 W2 : World} {base : Nat} {e : TypeId} {size : Nat} {v : Value} {n : Nat} {xs : List Value} (h : W1.ownsRow base e size v n xs) (hg : W1.grownBy W2 v.ownBlock) {i : Nat} {o : Obj} (ho : W1.heap[i]? = some o) (hh : (∀ cur f, o ≠ .cells cur e f) ∨ i < base) : W2.heap[i]? = some o :=
  (hg.block i (Array.getElem?_eq_some_iff.1 ho).1 (fun e => by
    obtain ⟨cur, h1, h2⟩ := owns_blk h i e.symm
    rw [ho] at h1
    cases h1
    rcases hh with h | h
    · exact h _ _ rfl
    · omega)).trans ho
theorem keep_own {W1 W2 : World} {base : Nat} {e : TypeId} {size : Nat} {v : Value} {n : Nat} {xs : List Value} (h : W1.ownsRow base e size v n xs) (hg : W1.grownBy W2 v.ownBlock) {base' : Nat} {e' : TypeId} {size' : Nat} {v' : Value} {n' : Nat} {xs' : List Value} (hne : e' ≠ e) (h2 : W1.ownsRow base' e' size' v' n' xs') : W2.ownsRow base' e' size' v' n' xs' := by
  obtain ⟨h1, h2 | ⟨g, cap, cur, hv, hg', hh, r⟩⟩ := h2
  · exact ⟨h1, .inl h2⟩
  · exact ⟨h1, .inr ⟨g, cap, cur, hv, hg', keep_row h hg hh (.inl fun c f e => by cases e; exact hne rfl), r⟩⟩
theorem own_set {W : World} {base : Nat} {e t : TypeId} {size : Nat} {v : Value} {n : Nat} {xs : List Value} (h : W.ownsRow base e size v n xs) {g : Nat} {cur : Array Value} (hg : W.heap[g]? = some (.cells cur t (0, 0))) (hne : e ≠ t) (j : Nat) (u : Value) : (W.setCell ⟨g, j, none⟩ u).ownsRow base e size v n xs := by
  obtain ⟨h1, h2 | ⟨g', cap, cur', hv, hg', hh, r⟩⟩ := h
  · exact ⟨h1, .inl h2⟩
  · exact ⟨h1, .inr ⟨g', cap, cur', hv, hg', hsetS_ne hh (fun e => by subst e; rw [hg] at hh; cases hh; exact hne rfl), r⟩⟩
theorem owns_mono {W : World} {base base' : Nat} {e : TypeId} {size : Nat} {v : Value} {n : Nat} {xs : List Value} (h : W.ownsRow base e size v n xs) (hb : base' ≤ base) : W.ownsRow base' e size v n xs := by
  obtain ⟨h1, h2 | ⟨g', cap, cur', hv, hg', r⟩⟩ := h
  · exact ⟨h1, .inl h2⟩
  · exact ⟨h1, .inr ⟨g', cap, cur', hv, Nat.le_trans hb hg', r⟩⟩

theorem own_but {W W' : World} {base base' : Nat} {e t : TypeId} {size : Nat} {v : Value} {n : Nat} {xs : List Value} (h : W.ownsRow base e size v n xs) {g : Nat} (hb : But (fun b => b = g) W W') {cur : Array Value} (hg : W.heap[g]? = some (.cells cur t (0, 0))) (hne : e ≠ t) (hbb : base' ≤ base) : W'.ownsRow base' e size v n xs := by
  obtain ⟨h1, h2 | ⟨g', cap, cur', hv, hg', hh, r⟩⟩ := h
  · exact ⟨h1, .inl h2⟩
  · exact ⟨h1, .inr ⟨g', cap, cur', hv, Nat.le_trans hbb hg', (hb.block g' (Array.getElem?_eq_some_iff.1 hh).1 (fun e => by subst e; rw [hg] at hh; cases hh; exact hne rfl)).trans hh, r⟩⟩

theorem bdB_size (c : Cg) (hc : c.wf) (s : ByteArray) (h : s.size ≤ 4096) : (bdB c s).size ≤ 60000000 := by
  unfold bdB
  have h1 := bdL_size c hc 4096 (lnsB s).length (lnsB s) rfl (fun x hx => by have := lnsF_mem _ s x hx; omega)
  have h2 := lnsF_len s.size s
  have h3 : (lnsB s).length ≤ 4096 := by unfold lnsB; omega
  exact Nat.le_trans h1 (Nat.le_trans (Nat.mul_le_mul_right _ h3) (by decide))

theorem wp_calmS {P : Program} {c : Code} {Q : Exit → Act → World → Prop} {a : Act} {w : World} (h : c.wp P (calmQ (Q .normal)) a w) : c.wp P Q a w := wp_mono h (fun e a w h => by obtain ⟨rfl, h⟩ := h; exact h)

/-- The message that is being made: its block, its body. -/
def NM14 (w : World) (gn : Nat) (st : ByteArray) (vh vb : Value) (nb : ByteArray) (W : World) : Prop :=
  w.heap.size ≤ gn ∧ W.heap[gn]? = some (.cells #[.string st, vh, vb] 25 (0, 0)) ∧ W.ownsRow w.heap.size 5 1 vb nb.size (nvs nb)

set_option maxRecDepth 100000 in
set_option maxHeartbeats 8000000 in
theorem message_any (c : Cg) (mv : Value) (st : ByteArray) (sv sb : Value) (hs : List Hr) (zb : List Int) (w : World) (hT : TabI w) (hM : TabM w) (hc : c.wf) (hI : RdP2 w.heap.size w mv c.media) (hH : RdM w.heap.size w sv hs) (hB : Rd w.heap.size w sb zb) (hz : zb.length ≤ 4096) (hhl : hs.length ≤ 64) (hhs : ∀ h ∈ hs, h.1.size ≤ 4096 ∧ h.2.size ≤ 4096) :
    Calls Tryz.prog 24 #[.agg #[.string c.host, .string c.is, .int .u16 c.port, .int .u16 c.np, mv], .agg #[.string st, sv, sb]] w fun e w' => Later w w' ∧ ∃ vh vb, e = .returned (.agg #[.string st, vh, vb]) ∧ w'.ownsRow w.heap.size 44 2 vh hs.length (hrs (mgH c (bdB c (strOfNums zb)).size hs)) ∧ w'.ownsRow w.heap.size 5 1 vb (bdB c (strOfNums zb)).size (nvs (bdB c (strOfNums zb))) := by
  obtain ⟨sa, scp, rfl, hsc1, hsc2⟩ := hH.slice
  have hb4 : Later w (((w.alloc (.cells #[.string c.host, .string c.is, .int .u16 c.port, .int .u16 c.np, mv] 64)).alloc (.cells #[.string st, .slice sa hs.length scp, sb] 25)).alloc (.cells #[.string ⟨#[]⟩, .slice none 0 0, .slice none 0 0] 25)) := (((Below.refl _ _).alloc (Nat.le_refl _) _).alloc (by simp) _).alloc (by simp <;> omega) _
  have c0 : (((w.alloc (.cells #[.string c.host, .string c.is, .int .u16 c.port, .int .u16 c.np, mv] 64)).alloc (.cells #[.string st, .slice sa hs.length scp, sb] 25)).alloc (.cells #[.string ⟨#[]⟩, .slice none 0 0, .slice none 0 0] 25)).heap[w.heap.size]? = some (.cells #[.string c.host, .string c.is, .int .u16 c.port, .int .u16 c.np, mv] 64) := (Below.heap_alloc _ _ _ (by simp <;> omega)).trans ((Below.heap_alloc _ _ _ (by simp)).trans (heap_alloc_new w _))
  have c1 : (((w.alloc (.cells #[.string c.host, .string c.is, .int .u16 c.port, .int .u16 c.np, mv] 64)).alloc (.cells #[.string st, .slice sa hs.length scp, sb] 25)).alloc (.cells #[.string ⟨#[]⟩, .slice none 0 0, .slice none 0 0] 25)).heap[w.heap.size + 1]? = some (.cells #[.string st, .slice sa hs.length scp, sb] 25) := by
    have := heap_alloc_new (w.alloc (.cells #[.string c.host, .string c.is, .int .u16 c.port, .int .u16 c.np, mv] 64)) (.cells #[.string st, .slice sa hs.length scp, sb] 25)
    rw [World.size_alloc] at this
    exact (Below.heap_alloc _ _ _ (by simp)).trans this
  have c2 : (((w.alloc (.cells #[.string c.host, .string c.is, .int .u16 c.port, .int .u16 c.np, mv] 64)).alloc (.cells #[.string st, .slice sa hs.length scp, sb] 25)).alloc (.cells #[.string ⟨#[]⟩, .slice none 0 0, .slice none 0 0] 25)).heap[w.heap.size + 1 + 1]? = some (.cells #[.string ⟨#[]⟩, .slice none 0 0, .slice none 0 0] 25) := by
    have := heap_alloc_new ((w.alloc (.cells #[.string c.host, .string c.is, .int .u16 c.port, .int .u16 c.np, mv] 64)).alloc (.cells #[.string st, .slice sa hs.length scp, sb] 25)) (.cells #[.string ⟨#[]⟩, .slice none 0 0, .slice none 0 0] 25)
    simpa only [World.size_alloc] using this
  have hs4 : (((w.alloc (.cells #[.string c.host, .string c.is, .int .u16 c.port, .int .u16 c.np, mv] 64)).alloc (.cells #[.string st, .slice sa hs.length scp, sb] 25)).alloc (.cells #[.string ⟨#[]⟩, .slice none 0 0, .slice none 0 0] 25)).heap.size = w.heap.size + 1 + 1 + 1 := by simp
  have C0 := hide c0
  have C1 := hide c1
  have C2 := hide c2
  have HS4 := hide hs4
  clear c0 c1 c2 hs4
  have hnbs := bdB_size c hc (strOfNums zb) (by rw [strOfNums_size]; exact hz)
  generalize hnb : bdB c (strOfNums zb) = nb at *
  have HNB := hide hnb
  clear hnb
  go_enter Tryz.func24, Tryz.ntmps24
  go_upto_region 1 with fail
  generalize ((w.alloc (.cells #[.string c.host, .string c.is, .int .u16 c.port, .int .u16 c.np, mv] 64)).alloc (.cells #[.string st, .slice sa hs.length scp, sb] 25)).alloc (.cells #[.string ⟨#[]⟩, .slice none 0 0, .slice none 0 0] 25) = w4 at *
  have hs4 : w4.heap.size = w.heap.size + 1 + 1 + 1 := HS4.out
  generalize hgc : w.heap.size = gc at *
  refine wp_mono (Q := fun e a' W => e = .normal ∧ ∃ gn vb, a' = { tmps := #[.agg #[.string c.host, .string c.is, .int .u16 c.port, .int .u16 c.np, mv], .agg #[.string st, .slice sa hs.length scp, sb], .pointer (some ⟨gc, 0, none⟩), .pointer (some ⟨gc + 1, 0, none⟩), .pointer (some ⟨gc + 1 + 1, 0, none⟩), .pointer (some ⟨gn, 0, none⟩), undef, undef, .pointer (some ⟨gc + 1, 0, none⟩), .string st, .agg #[.string c.host, .string c.is, .int .u16 c.port, .int .u16 c.np, mv], .pointer (some ⟨gc + 1, 2, none⟩), sb, vb, .agg #[.string st, .slice none 0 0, vb], undef, undef, undef, undef, undef, undef, undef, undef, undef, undef, undef, undef, undef, undef, undef, undef, undef, undef, undef, undef, undef, undef, undef], defers := [] } ∧ Later w4 W ∧ NM14 w4 gn st (.slice none 0 0) vb nb W) ?reg ?rest
  case reg =>
    refine anyU_begin (R1 := Later) (R2 := fun _ _ => True) (D := [8]) 9 rfl (by kernel_rfl) ?_
    have ld : Later w4 w4.drew := Later.drew w4
    generalize w4.drew = Wd at *
    have LWd : Later w Wd := Later.trans hb4 ld
    have qC : ∀ v1, Later Wd v1 → ∀ j, v1.cell? ⟨gc, j, none⟩ = #[.string c.host, .string c.is, .int .u16 c.port, .int .u16 c.np, mv][j]? := fun v1 hv => block_cell (later_keep (ld.trans hv) C0.out)
    have qM : ∀ v1, Later Wd v1 → ∀ j, v1.cell? ⟨gc + 1, j, none⟩ = #[.string st, .slice sa hs.length scp, sb][j]? := fun v1 hv => block_cell (later_keep (ld.trans hv) C1.out)
    refine anyU_val Later.pre 0 [1, 6, 8] rfl (by rfl) (by rfl) (by kernel_rfl) (by kernel_rfl) (by kernel_rfl) (by kernel_rfl) (by kernel_rfl) (fun _ _ _ _ h => by cases h.1) (by rfl) ?_; apply Exists.intro; refine ⟨fun v1 hv1 => ?_, ?_⟩; (· (go_simp; rfl)); simp only [Act.put, List.setIfInBounds_toArray, List.set_cons_zero, List.set_cons_succ]
    refine anyU_val Later.pre 1 [6, 8] rfl (by rfl) (by rfl) (by kernel_rfl) (by kernel_rfl) (by kernel_rfl) (by kernel_rfl) (by kernel_rfl) (fun _ _ _ _ h => by cases h.1) (by rfl) ?_; apply Exists.intro; refine ⟨fun v1 hv1 => ?_, ?_⟩; (· (go_simp; rfl)); simp only [Act.put, List.setIfInBounds_toArray, List.set_cons_zero, List.set_cons_succ]
    refine anyU_val Later.pre 2 [5, 6, 8] rfl (by rfl) (by rfl) (by kernel_rfl) (by kernel_rfl) (by kernel_rfl) (by kernel_rfl) (by kernel_rfl) (fun _ _ _ _ h => by cases h.1) (by rfl) ?_; apply Exists.intro; refine ⟨fun v1 hv1 => ?_, ?_⟩; (· (go_simp; rfl)); simp only [Act.put, List.setIfInBounds_toArray, List.set_cons_zero, List.set_cons_succ]
    refine anyU_val Later.pre 3 [4, 5, 6, 8] rfl (by rfl) (by rfl) (by kernel_rfl) (by kernel_rfl) (by kernel_rfl) (by kernel_rfl) (by kernel_rfl) (fun _ _ _ _ h => by cases h.1) (by rfl) ?_; apply Exists.intro; refine ⟨fun v1 hv1 => ?_, ?_⟩; (· (go_simp; rfl)); simp only [Act.put, List.setIfInBounds_toArray, List.set_cons_zero, List.set_cons_succ]
    refine anyU_val Later.pre 4 [5, 6, 8] rfl (by rfl) (by rfl) (by kernel_rfl) (by kernel_rfl) (by kernel_rfl) (by kernel_rfl) (by kernel_rfl) (fun _ _ _ _ h => by cases h.1) (by rfl) ?_; apply Exists.intro; refine ⟨fun v1 hv1 => ?_, ?_⟩; (· (go_simp; rfl)); simp only [Act.put, List.setIfInBounds_toArray, List.set_cons_zero, List.set_cons_succ]
    clear qC qM
    refine anyU_two 5 7 rfl rfl (by kernel_rfl) (by rfl) (by rfl) ?ca ?al
    case ca =>
      refine wp_enter 41 #[.agg #[.string c.host, .string c.is, .int .u16 c.port, .int .u16 c.np, mv], sb] (by go_simp) ?_
      refine (body_any c mv sb zb Wd (hT.later LWd) (hM.later LWd) hc ((show RdP2 w.heap.size w mv c.media from hgc ▸ hI).later LWd) ((show Rd w.heap.size w sb zb from hgc ▸ hB).later LWd) hz).mono ?_
      rintro e W1 ⟨l1, v, rfl, hrow⟩
      rw [HNB.out] at hrow
      obtain ⟨va, vc, rfl⟩ := owns_form hrow
      refine ⟨Rj_out (by rfl) l1, ?_⟩
      simp only [Act.put, List.setIfInBounds_toArray, List.set_cons_zero, List.set_cons_succ]
      refine anyU_val Later.pre 6 [8] rfl (by rfl) (by rfl) (by kernel_rfl) (by kernel_rfl) (by kernel_rfl) (by kernel_rfl) (by kernel_rfl) (fun _ _ _ _ h => by cases h.1) (by rfl) ?_; apply Exists.intro; refine ⟨fun v1 hv1 => ?_, ?_⟩; (· (go_simp; rfl)); simp only [Act.put, List.setIfInBounds_toArray, List.set_cons_zero, List.set_cons_succ]
      refine anyU_one 7 rfl (by kernel_rfl) (by rfl) ?_
      have la := later_allocR W1 (.cells #[.string ⟨#[]⟩, .slice none 0 0, .slice none 0 0] 25)
      have HA := heap_alloc_new W1 (.cells #[.string ⟨#[]⟩, .slice none 0 0, .slice none 0 0] 25)
      unfold Oper.wp
      go_simp
      refine ⟨Rj_out (by rfl) la, ?_⟩
      have hsg : w4.heap.size ≤ W1.heap.size := (ld.trans l1).size
      have LL := ld.trans (l1.trans la)
      change wpAnyU _ _ _ _ _ _ _ _ _ _ (W1.alloc (.cells #[.string ⟨#[]⟩, .slice none 0 0, .slice none 0 0] 25))
      generalize W1.alloc (.cells #[.string ⟨#[]⟩, .slice none 0 0, .slice none 0 0] 25) = W5 at *
      generalize W1.heap.size = gn at *
      have hrow5 := ownsS_ct hrow (CTs.of la)
      have kA := block_cell HA; have fA := block_frozen HA; refine anyU_one 8 rfl (by kernel_rfl) (by rfl) ?_; unfold Oper.wp; go_simp; refine ⟨Rj_in (by rfl) trivial, ?_⟩; clear kA fA; generalize hV : (((W5.setCell ⟨gn, 0, none⟩ _).setCell ⟨gn, 1, none⟩ _).setCell ⟨gn, 2, none⟩ _) = V8; have hV9 : V8 = putRow W5 gn 0 [.string st, .slice none 0 0, .slice va nb.size vc] := hV.symm; have hb8 : But (fun b => b = gn) W5 V8 := (by rw [hV9]; exact putRow_but (E := fun b => b = gn) (n := gn) rfl _ _ _ _ (But.refl _ _)); have p8 := putRow_all [.string st, .slice none 0 0, .slice va nb.size vc] HA rfl; rw [← hV9] at p8; clear hV hV9; refine anyU_done (by kernel_rfl) ?_; refine ⟨rfl, gn, .slice va nb.size vc, rfl, Below.trans LL (hb8.below LL.size (fun k h e => by omega)), hsg, p8, ?_⟩; refine own_but hrow5 hb8 HA (by decide) (by first | exact ld.size | exact (ld.trans la).size)
    case al =>
      have la := later_allocR Wd (.cells #[.string ⟨#[]⟩, .slice none 0 0, .slice none 0 0] 25)
      have HA0 := heap_alloc_new Wd (.cells #[.string ⟨#[]⟩, .slice none 0 0, .slice none 0 0] 25)
      unfold Oper.wp
      go_simp
      refine ⟨Rj_out (by rfl) la, ?_⟩
      have hsg : w4.heap.size ≤ Wd.heap.size := ld.size
      change wpAnyU _ _ _ _ _ _ _ _ _ _ (Wd.alloc (.cells #[.string ⟨#[]⟩, .slice none 0 0, .slice none 0 0] 25))
      generalize Wd.alloc (.cells #[.string ⟨#[]⟩, .slice none 0 0, .slice none 0 0] 25) = W3 at *
      generalize hgn : Wd.heap.size = gn at *
      have LW3 : Later w W3 := LWd.trans la
      refine anyU_one 5 rfl (by kernel_rfl) (by rfl) ?_
      refine wp_enter 41 #[.agg #[.string c.host, .string c.is, .int .u16 c.port, .int .u16 c.np, mv], sb] (by go_simp) ?_
      refine (body_any c mv sb zb W3 (hT.later LW3) (hM.later LW3) hc ((show RdP2 w.heap.size w mv c.media from hgc ▸ hI).later LW3) ((show Rd w.heap.size w sb zb from hgc ▸ hB).later LW3) hz).mono ?_
      rintro e W5 ⟨l1, v, rfl, hrow5⟩
      rw [HNB.out] at hrow5
      obtain ⟨va, vc, rfl⟩ := owns_form hrow5
      refine ⟨Rj_out (by rfl) l1, ?_⟩
      simp only [Act.put, List.setIfInBounds_toArray, List.set_cons_zero, List.set_cons_succ]
      refine anyU_val Later.pre 6 [8] rfl (by rfl) (by rfl) (by kernel_rfl) (by kernel_rfl) (by kernel_rfl) (by kernel_rfl) (by kernel_rfl) (fun _ _ _ _ h => by cases h.1) (by rfl) ?_; apply Exists.intro; refine ⟨fun v1 hv1 => ?_, ?_⟩; (· (go_simp; rfl)); simp only [Act.put, List.setIfInBounds_toArray, List.set_cons_zero, List.set_cons_succ]
      have HA := later_keep l1 HA0
      have LL := ld.trans (la.trans l1)
      have kA := block_cell HA; have fA := block_frozen HA; refine anyU_one 8 rfl (by kernel_rfl) (by rfl) ?_; unfold Oper.wp; go_simp; refine ⟨Rj_in (by rfl) trivial, ?_⟩; clear kA fA; generalize hV : (((W5.setCell ⟨gn, 0, none⟩ _).setCell ⟨gn, 1, none⟩ _).setCell ⟨gn, 2, none⟩ _) = V8; have hV9 : V8 = putRow W5 gn 0 [.string st, .slice none 0 0, .slice va nb.size vc] := hV.symm; have hb8 : But (fun b => b = gn) W5 V8 := (by rw [hV9]; exact putRow_but (E := fun b => b = gn) (n := gn) rfl _ _ _ _ (But.refl _ _)); have p8 := putRow_all [.string st, .slice none 0 0, .slice va nb.size vc] HA rfl; rw [← hV9] at p8; clear hV hV9; refine anyU_done (by kernel_rfl) ?_; refine ⟨rfl, gn, .slice va nb.size vc, rfl, Below.trans LL (hb8.below LL.size (fun k h e => by omega)), hsg, p8, ?_⟩; refine own_but hrow5 hb8 HA (by decide) (by first | exact ld.size | exact (ld.trans la).size)
  case rest =>
    rintro e a' W ⟨rfl, gn, vb, rfl, lW, hN⟩
    obtain ⟨hgn, hN1, hN2⟩ := hN
    have D0 := hide (later_keep lW C0.out)
    have D1 := hide (later_keep lW C1.out)
    have D2 := hide (later_keep lW C2.out)
    have LW : Later w W := Later.trans hb4 lW
    obtain ⟨va, vc, rfl⟩ := owns_form hN2
    have HN1 := hide hN1
    have HN2 := hide (owns_mono (base' := gc) hN2 (by omega))
    have LWg : Below gc w W := hgc ▸ LW
    have HH := hide (hH.below LWg)
    have hgn3 : gc + 3 ≤ gn := by omega
    clear hN1 hN2 C0 C1 C2 hgn
    dsimp only
    have k1 := block_cell D1.out
    generalize hnh : mgH c nb.size hs = mh at *
    go_upto_region 3 with fail
    clear k1
    go_loopw [18] (fun iv wr => ∃ (k : Nat) (vh : Value), k ≤ hs.length ∧ iv = .int .i64 (k : Int) ∧ Below gc W wr ∧ Hid (wr.heap[gc]? = some (.cells #[.string c.host, .string c.is, .int .u16 c.port, .int .u16 c.np, mv] 64 (0, 0))) ∧ Hid (wr.heap[gc + 1 + 1]? = some (.cells #[.string ⟨#[]⟩, .slice none 0 0, .slice none 0 0] 25 (0, 0))) ∧ Hid (wr.heap[gn]? = some (.cells #[.string st, vh, .slice va nb.size vc] 25 (0, 0))) ∧ Hid (wr.ownsRow gc 5 1 (.slice va nb.size vc) nb.size (nvs nb)) ∧ Hid (wr.ownsRow gc 44 2 vh k (hrs (mgH c nb.size (hs.take k))))) (fun iv _ => hs.length - (intOf iv).toNat)
    case atStart => exact ⟨0, .slice none 0 0, by omega, rfl, Below.refl _ _, D0, D2, HN1, HN2, rfl, .inl ⟨rfl, rfl⟩⟩
    case round =>
      obtain ⟨k, vh, hk, rfl, hbr, E0, E2, EN, EB, EH⟩ := hrel
      have LWr : Later w wr := by show Below w.heap.size w wr; rw [hgc]; exact LWg.trans hbr
      obtain ⟨ha, hcp, rfl⟩ := owns_form EH.out
      by_cases hlt : k < hs.length
      · have hlt' : (k : Int) < (hs.length : Int) := by omega
        obtain ⟨b, off, cp, e, _, _, hbn, hcs⟩ := ((HH.out).below hbr).cells (by omega)
        cases e
        have d0 := hcs k hlt 0 (by omega)
        have d1 := hcs k hlt 1 (by omega)
        have hsz := hhs hs[k] (List.getElem_mem hlt)
        have HTK := hide (mgH_take c nb.size hs k hlt)
        clear hcs
        generalize hs[k] = hk at *
        obtain ⟨n1, n2⟩ := hk
        simp only [hrc, List.getElem?_cons_zero, List.getElem?_cons_succ, Nat.add_zero] at d0 d1 HTK
        simp only at hsz
        have la := later_allocR wr (.cells #[.string n1, .string n2] 44)
        have HA := hide (heap_alloc_new wr (.cells #[.string n1, .string n2] 44))
        go_upto_region 5 with fail
        clear d0 d1
        generalize wr.alloc _ = wq at *
        generalize hgh : wr.heap.size = gh at *
        have hgcr : gc ≤ gh := by rw [← hgh, ← hgc]; exact LWr.size
        refine wp_calmS ?_
        refine anyU_begin (R1 := Later) (R2 := fun _ _ => True) (D := [12, 14]) 15 rfl (by kernel_rfl) ?_
        have ld : Later wq wq.drew := Later.drew wq
        generalize wq.drew = Wd at *
        have lq := la.trans ld
        have LWd : Later w Wd := LWr.trans lq
        have qC : ∀ v1, Later Wd v1 → ∀ j, v1.cell? ⟨gc, j, none⟩ = #[.string c.host, .string c.is, .int .u16 c.port, .int .u16 c.np, mv][j]? := fun v1 hv => block_cell (later_keep (lq.trans hv) E0.out)
        have qN : ∀ v1, Later Wd v1 → ∀ j, v1.cell? ⟨gn, j, none⟩ = #[.string st, .slice ha k hcp, .slice va nb.size vc][j]? := fun v1 hv => block_cell (later_keep (lq.trans hv) EN.out)
        have qH : ∀ v1, Later Wd v1 → ∀ j, v1.cell? ⟨gh, j, none⟩ = #[.string n1, .string n2][j]? := fun v1 hv => block_cell (later_keep (ld.trans hv) HA.out)
        refine anyU_val Later.pre 0 [1, 12, 14] rfl (by rfl) (by rfl) (by kernel_rfl) (by kernel_rfl) (by kernel_rfl) (by kernel_rfl) (by kernel_rfl) (fun _ _ _ _ h => by cases h.1) (by rfl) ?_; apply Exists.intro; refine ⟨fun v1 hv1 => ?_, ?_⟩; (· (go_simp; rfl)); simp only [Act.put, List.setIfInBounds_toArray, List.set_cons_zero, List.set_cons_succ]
        refine anyU_val Later.pre 1 [12, 14] rfl (by rfl) (by rfl) (by kernel_rfl) (by kernel_rfl) (by kernel_rfl) (by kernel_rfl) (by kernel_rfl) (fun _ _ _ _ h => by cases h.1) (by rfl) ?_; apply Exists.intro; refine ⟨fun v1 hv1 => ?_, ?_⟩; (· (go_simp; rfl)); simp only [Act.put, List.setIfInBounds_toArray, List.set_cons_zero, List.set_cons_succ]
        refine anyU_val Later.pre 2 [3, 10, 11, 12, 14] rfl (by rfl) (by rfl) (by kernel_rfl) (by kernel_rfl) (by kernel_rfl) (by kernel_rfl) (by kernel_rfl) (fun _ _ _ _ h => by cases h.1) (by rfl) ?_; apply Exists.intro; refine ⟨fun v1 hv1 => ?_, ?_⟩; (· (go_simp; rfl)); simp only [Act.put, List.setIfInBounds_toArray, List.set_cons_zero, List.set_cons_succ]
        refine anyU_val Later.pre 3 [10, 11, 12, 14] rfl (by rfl) (by rfl) (by kernel_rfl) (by kernel_rfl) (by kernel_rfl) (by kernel_rfl) (by kernel_rfl) (fun _ _ _ _ h => by cases h.1) (by rfl) ?_; apply Exists.intro; refine ⟨fun v1 hv1 => ?_, ?_⟩; (· (go_simp; rfl)); simp only [Act.put, List.setIfInBounds_toArray, List.set_cons_zero, List.set_cons_succ]
        refine anyU_val Later.pre 4 [9, 10, 11, 12, 14] rfl (by rfl) (by rfl) (by kernel_rfl) (by kernel_rfl) (by kernel_rfl) (by kernel_rfl) (by kernel_rfl) (fun _ _ _ _ h => by cases h.1) (by rfl) ?_; apply Exists.intro; refine ⟨fun v1 hv1 => ?_, ?_⟩; (· (go_simp; rfl)); simp only [Act.put, List.setIfInBounds_toArray, List.set_cons_zero, List.set_cons_succ]
        refine anyU_val Later.pre 5 [9, 10, 11, 12, 14] rfl (by rfl) (by rfl) (by kernel_rfl) (by kernel_rfl) (by kernel_rfl) (by kernel_rfl) (by kernel_rfl) (fun _ _ _ _ h => by cases h.1) (by rfl) ?_; apply Exists.intro; refine ⟨fun v1 hv1 => ?_, ?_⟩; (· (go_simp; rfl)); simp only [Act.put, List.setIfInBounds_toArray, List.set_cons_zero, List.set_cons_succ]
        refine anyU_val Later.pre 6 [7, 8, 9, 10, 11, 12, 14] rfl (by rfl) (by rfl) (by kernel_rfl) (by kernel_rfl) (by kernel_rfl) (by kernel_rfl) (by kernel_rfl) (fun _ _ _ _ h => by cases h.1) (by rfl) ?_; apply Exists.intro; refine ⟨fun v1 hv1 => ?_, ?_⟩; (· (go_simp; rfl)); simp only [Act.put, List.setIfInBounds_toArray, List.set_cons_zero, List.set_cons_succ]
        refine anyU_val Later.pre 7 [8, 9, 10, 11, 12, 14] rfl (by rfl) (by rfl) (by kernel_rfl) (by kernel_rfl) (by kernel_rfl) (by kernel_rfl) (by kernel_rfl) (fun _ _ _ _ h => by cases h.1) (by rfl) ?_; apply Exists.intro; refine ⟨fun v1 hv1 => ?_, ?_⟩; (· (go_simp; rfl)); simp only [Act.put, List.setIfInBounds_toArray, List.set_cons_zero, List.set_cons_succ]
        refine anyU_val Later.pre 8 [9, 10, 11, 12, 14] rfl (by rfl) (by rfl) (by kernel_rfl) (by kernel_rfl) (by kernel_rfl) (by kernel_rfl) (by kernel_rfl) (fun _ _ _ _ h => by cases h.1) (by rfl) ?_; apply Exists.intro; refine ⟨fun v1 hv1 => ?_, ?_⟩; (· (go_simp; rfl)); simp only [Act.put, List.setIfInBounds_toArray, List.set_cons_zero, List.set_cons_succ]
        clear qC qN qH
        refine anyU_one 9 rfl (by kernel_rfl) (by rfl) ?_
        refine wp_enter 42 #[.agg #[.string c.host, .string c.is, .int .u16 c.port, .int .u16 c.np, mv], .agg #[.string n1, .string n2], .int .i64 (nb.size : Int)] (by go_simp) ?_
        refine (value_any c mv n1 n2 nb.size Wd (hT.later LWd) (hM.later LWd) hc (by omega) (by omega) (by omega)).mono ?_
        rintro e W1 ⟨rfl, l1⟩
        generalize vuB c nb.size (n1, n2) = nv at *
        refine ⟨Rj_out (by rfl) l1, ?_⟩
        simp only [Act.put, List.setIfInBounds_toArray, List.set_cons_zero, List.set_cons_succ]
        refine anyU_val Later.pre 10 [11, 12, 14] rfl (by rfl) (by rfl) (by kernel_rfl) (by kernel_rfl) (by kernel_rfl) (by kernel_rfl) (by kernel_rfl) (fun _ _ _ _ h => by cases h.1) (by rfl) ?_; apply Exists.intro; refine ⟨fun v1 hv1 => ?_, ?_⟩; (· (go_simp; rfl)); simp only [Act.put, List.setIfInBounds_toArray, List.set_cons_zero, List.set_cons_succ]
        refine anyU_one 11 rfl (by kernel_rfl) (by rfl) ?_
        have l2 := later_allocR W1 (.cells #[.string n1, .string nv] 44)
        have HNW := hide (heap_alloc_new W1 (.cells #[.string n1, .string nv] 44))
        unfold Oper.wp
        go_simp
        refine ⟨Rj_out (by rfl) l2, ?_⟩
        change wpAnyU _ _ _ _ _ _ _ _ _ _ (W1.alloc (.cells #[.string n1, .string nv] 44))
        generalize W1.alloc (.cells #[.string n1, .string nv] 44) = W5 at *
        generalize W1.heap.size = gw at *
        have LL := lq.trans (l1.trans l2)
        have EH5 := ownsS_ct EH.out (CTs.of LL)
        have EB5 := ownsS_ct EB.out (CTs.of LL)
        have EN5 := later_keep LL EN.out
        have E05 := later_keep LL E0.out
        have E25 := later_keep LL E2.out
        have hnk := block_cell HNW.out
        obtain ⟨i0, hi0, hz0, hz1, hz2⟩ := info_partsS info_hdr
        have hgc5 : gc ≤ W5.heap.size := by have := LL.size; omega
        obtain ⟨v', W2, hrun, hrow, hg, _⟩ := run_append_own (P := Tryz.prog) W5 gc 22 22 44 i0 (.agg #[.string ⟨#[]⟩, .string ⟨#[]⟩]) 2 32 Tryz.underlying22 hi0 hz0 hz1 hz2 rfl (by decide) (.slice ha k hcp) k (hrs (mgH c nb.size (hs.take k))) EH5 ⟨gw, 0, none⟩ 1 1 [.string n1, .string nv] rfl
          (fun j u hj => by
            rw [show (⟨gw, 0, none⟩ : Addr).add j = ⟨gw, 0 + j, none⟩ from by unfold Addr.add; split <;> simp_all]
            rw [Nat.zero_add, hnk j, ← hj]; simp)
          (by intro u hu; simp at hu; rcases hu with rfl | rfl <;> rfl) (by unfold maxLen; omega) (by omega) hgc5
        clear hnk
        refine anyU_one 12 rfl (by kernel_rfl) (by rfl) ?_
        refine wp_app (.tmp 23) (.tmp 33) 22 rfl _ _ rfl rfl v' W2 hrun ?_
        refine ⟨Rj_in (by rfl) trivial, ?_⟩
        simp only [Act.put, List.setIfInBounds_toArray, List.set_cons_zero, List.set_cons_succ]
        obtain ⟨a2, cp2, rfl⟩ := owns_form hrow
        have EN2 := keep_row EH5 hg EN5 (.inl fun cur f e => by cases e)
        have E02 := keep_row EH5 hg E05 (.inl fun cur f e => by cases e)
        have E22 := keep_row EH5 hg E25 (.inl fun cur f e => by cases e)
        have EB2 := keep_own EH5 hg (by decide) EB5
        refine anyU_one 13 rfl (by kernel_rfl) (by rfl) ?_
        refine wp_value (w' := W2) (.pointer (some ⟨gn, 1, none⟩)) (by go_simp) ?_
        refine ⟨Rj_out (by rfl) (Later.refl _), ?_⟩
        simp only [Act.put, List.setIfInBounds_toArray, List.set_cons_zero, List.set_cons_succ]
        have k2 := block_cell EN2
        have f2 := block_frozen EN2
        refine anyU_one 14 rfl (by kernel_rfl) (by rfl) ?_
        unfold Oper.wp
        go_simp
        refine ⟨Rj_in (by rfl) trivial, ?_⟩
        clear k2 f2
        refine anyU_done (by kernel_rfl) ?_
        refine ⟨rfl, ?_⟩
        have EN8 := heap_set1 EN2 1 (.slice a2 (k + 1) cp2)
        have E08 := hsetS_ne (j := 1) (v := .slice a2 (k + 1) cp2) E02 (m := gn) (by intro e; rw [← e] at EN2; rw [E02] at EN2; cases EN2)
        have E28 := hsetS_ne (j := 1) (v := .slice a2 (k + 1) cp2) E22 (m := gn) (by omega)
        have EB8 := own_set EB2 EN2 (by decide) 1 (.slice a2 (k + 1) cp2)
        have EH8 := own_set hrow EN2 (by decide) 1 (.slice a2 (k + 1) cp2)
        have B8 : Below gc wr (W2.setCell ⟨gn, 1, none⟩ (.slice a2 (k + 1) cp2)) := ⟨hg.os.trans LL.os, hg.tape.trans LL.tape, hg.output.trans LL.output, by have := LL.size; have := hg.size; simp; omega, fun i hi => by
          cases hh : wr.heap[i]? with
          | none => have := Array.getElem?_eq_none_iff.1 hh; omega
          | some o => exact hsetS_ne (keep_row EH5 hg (later_keep LL hh) (.inr hi)) (by omega)⟩
        have EH9 : (W2.setCell ⟨gn, 1, none⟩ (.slice a2 (k + 1) cp2)).ownsRow gc 44 2 (.slice a2 (k + 1) cp2) (k + 1) (hrs (mgH c nb.size (hs.take (k + 1)))) := by
          rw [HTK.out, hrs_snoc]
          exact EH8
        have HE8 := hide E08; have HF8 := hide E28; have HG8 := hide EN8; have HB8 := hide EB8; have HH9 := hide EH9; have HBL := hide (hbr.trans B8)
        clear E08 E28 EN8 EB8 EH9 EH8 B8 hrow EB2 E22 E02 EN2 hg hrun E25 E05 EN5 EB5 EH5
        generalize W2.setCell ⟨gn, 1, none⟩ (.slice a2 (k + 1) cp2) = V8 at *
        go_wp2_with fail
        go_roundw
        case rel => exact ⟨k + 1, .slice a2 (k + 1) cp2, by omega, by go_num, HBL.out, HE8, HF8, HG8, HB8, HH9⟩
        case measure => simp [intOf]; omega
      · have hnl : ¬ (k : Int) < (hs.length : Int) := by omega
        have hkk : k = hs.length := by omega
        have HH9 : Hid (wr.ownsRow gc 44 2 (.slice ha k hcp) hs.length (hrs mh)) := by
          have := EH.out
          rw [hkk, List.take_length, hnh] at this
          rw [hkk]
          exact this
        clear hkk
        have k2 := block_cell EN.out
        have k4 := block_cell E2.out
        have f4 := block_frozen E2.out
        go_wp2_with fail
        generalize hV : (((wr.setCell ⟨gc + 1 + 1, 0, none⟩ _).setCell ⟨gc + 1 + 1, 1, none⟩ _).setCell ⟨gc + 1 + 1, 2, none⟩ _) = V8
        have hV9 : V8 = putRow wr (gc + 1 + 1) 0 [.string st, .slice ha k hcp, .slice va nb.size vc] := hV.symm
        have hb8 : But (fun b => b = gc + 1 + 1) wr V8 := by rw [hV9]; exact putRow_but (E := fun b => b = gc + 1 + 1) (n := gc + 1 + 1) rfl _ _ _ _ (But.refl _ _)
        have p8 := putRow_all [.string st, .slice ha k hcp, .slice va nb.size vc] E2.out rfl
        rw [← hV9] at p8
        clear hV hV9
        have P8 := block_cell p8
        have hw8 : Later w V8 := Below.trans LWr (hb8.below LWr.size (fun k h e => by omega))
        exact bodyPost_ret (v := .agg #[.string st, .slice ha k hcp, .slice va nb.size vc]) (by simp [results, Tryz.results24, go_sem, P8]) rfl ⟨hw8, _, _, rfl, own_but HH9.out hb8 E2.out (by decide) (Nat.le_refl _), own_but EB.out hb8 E2.out (by decide) (Nat.le_refl _)⟩
end Go.Proofs.YtibjgaelaijgpaaGreatDoor

/- Package ctrl: bytes of numbers, parts joined, bytes.Clone, the packet with bytes in it. -/
namespace Go.Proofs.YtibjgaelaijgpaaGreatDoor
open Go.RowKit Go.Shelf
set_option maxRecDepth 100000
set_option linter.unusedVariables false
set_option linter.unusedSimpArgs false

theorem eql_nil (w : World) : (binOp .eql 23 (.slice none 0 0) (.slice none 0 0)).run Tryz.prog w = .ok (.bool true) w := by kernel_rfl

theorem eql_some (w : World) (ad : Addr) (n c : Nat) : (binOp .eql 23 (.slice (some ad) n c) (.slice none 0 0)).run Tryz.prog w = .ok (.bool false) w := by kernel_rfl

set_option maxHeartbeats 1000000 in
/-- bytes.Clone. -/
theorem cloneb_any (sv : Value) (zs : List Int) (w : World) (hl : zs.length ≤ 140737488355328) (hI : Rd w.heap.size w sv zs) :
    Calls Tryz.prog 39 #[sv] w fun e w' => ∃ a cap, e = .returned (.slice a zs.length cap) ∧ Ow w.heap.size w' (.slice a zs.length cap) zs ∧ Below w.heap.size w w' := by
  obtain ⟨i0, hi, hz0, hz1, hz2⟩ := info_parts info_u8
  have hb0 : Below w.heap.size w (w.alloc (.cells #[] 5)) := (Below.refl _ w).alloc (Nat.le_refl _) _
  have hR1 := hI.below hb0
  obtain ⟨a, cap, rfl, hl1, hm1⟩ := hI.slice
  cases a with
  | none =>
    obtain ⟨rfl, rfl⟩ : zs = [] ∧ cap = 0 := by
      rcases hI with ⟨a, cap', e, hz, _, hn⟩ | ⟨_, _, _, e, _⟩
      · have e1 := e
        simp at e1
        obtain ⟨rfl, _, rfl⟩ := e1
        exact ⟨hz, hn rfl⟩
      · simp at e
    have hq := eql_nil w
    go_enter Tryz.func39, Tryz.ntmps39
    go_wp2
    go_ret
    exact ⟨none, 0, rfl, .inl ⟨rfl, rfl⟩, Below.refl _ _⟩
  | some ad =>
    have hq := eql_some w ad zs.length cap
    go_enter Tryz.func39, Tryz.ntmps39
    go_wp2_with (at_builtin; refine wpList_app _ rfl (.tmp 5) (.tmp 6) 23 rfl w.heap.size 5 i0 Tryz.underlying23 hi hz0 hz1 hz2 _ [] rfl (own_empty w _) w.heap.size _ zs rfl hR1 (by simp; omega) (by simp) ?_; intro v0 w0 hown0 hg0; have hbw0 := below_app hb0 (own_empty w _) hg0 (Nat.le_refl _) hb0.size; clear hg0; have hO0 := Ow.of_row hown0; clear hown0; simp only [List.nil_append] at hO0; obtain ⟨a0, cap0, rfl, hp0, hm0⟩ := hO0.slice)
    go_ret
    exact ⟨a0, cap0, rfl, hO0, hbw0⟩

/-- Slices that read as bytes, one by one. -/
def Rds (n₀ : Nat) (W : World) : List Value → List (List Int) → Prop
  | [], [] => True
  | v :: vs, z :: zs => Rd n₀ W v z ∧ Rds n₀ W vs zs
  | _, _ => False
theorem Rds.length {n₀ : Nat} {W : World} : ∀ {vs : List Value} {zs : List (List Int)}, Rds n₀ W vs zs → vs.length = zs.length
  | [], [], _ => rfl
  | _ :: _, _ :: _, h => by simp [h.2.length]
  | [], _ :: _, h => h.elim
  | _ :: _, [], h => h.elim
theorem Rds.at {n₀ : Nat} {W : World} : ∀ {vs : List Value} {zs : List (List Int)}, Rds n₀ W vs zs → ∀ j, j < vs.length → Rd n₀ W (vs[j]?.getD undef) (zs[j]?.getD [])
  | _ :: _, _ :: _, h, 0, _ => h.1
  | _ :: _, _ :: _, h, j + 1, hj => by simpa using h.2.at j (by simpa using hj)
  | [], _, _, _, hj => by simp at hj
  | _ :: _, [], h, _, _ => h.elim
end Go.Proofs.YtibjgaelaijgpaaGreatDoor

/- Package sip: a message with lists of its own; Rewrite. -/
namespace Go.Proofs.YtibjgaelaijgpaaGreatDoor
open Go.RowKit Go.Shelf
set_option maxRecDepth 100000
set_option linter.unusedVariables false
set_option linter.unusedSimpArgs false

theorem addr_addS (b off k : Nat) : (⟨b, off, none⟩ : Addr).add k = ⟨b, off + k, none⟩ := by unfold Addr.add; split <;> simp_all
theorem hrs_one (l : List Hr) : ∀ u ∈ hrs l, u.oneCell' = true := fun u hu => by
  obtain ⟨r, _, hr⟩ := List.mem_flatMap.1 hu
  simp only [hrc, List.mem_cons, List.not_mem_nil, or_false] at hr
  rcases hr with rfl | rfl <;> rfl

/-- All of a list appended onto one's own. -/
theorem appH (w : World) (ty : TypeId) (base n₀ : Nat) (v : Value) (xs : List Hr) (sv : Value) (ys : List Hr) (hown : w.ownsRow base 44 2 v xs.length (hrs xs)) (hI : RdM n₀ w sv ys) (hbase : base ≤ w.heap.size) (hs : xs.length + ys.length ≤ 10000) :
    ∃ v' w', (Builtin.append_ #[22, 22] ty #[v, sv]).run Tryz.prog w = .ok v' w' ∧ w'.ownsRow base 44 2 v' (xs ++ ys).length (hrs (xs ++ ys)) ∧ w.grownBy w' v.ownBlock ∧ (v'.ownBlock = v.ownBlock ∨ v'.ownBlock = some w.heap.size) := by
  obtain ⟨i0, hi0, hz0, hz1, hz2⟩ := info_partsS info_hdr
  rcases hI with ⟨a, cap, rfl, rfl, hcm, ha⟩ | ⟨b, off, cap, rfl, hne, hl, hm, hb, hc⟩
  · obtain ⟨av, cv, rfl, hv1, hv2⟩ := (ownM_rd hown).slice
    refine ⟨_, w, run_append_nothing w _ _ ty _ i0 Tryz.underlying22 hi0 av xs.length cv hv1 (.slice a 0 cap) ?_, by rw [List.append_nil]; exact hown, ⟨rfl, rfl, rfl, Nat.le_refl _, fun _ _ _ => rfl⟩, .inl rfl⟩
    refine ⟨.inl ⟨_, Tryz.underlying22⟩, fun w' => ?_, ?_, ?_, by simp, by simp⟩ <;> cases a <;> simp [Builtin.lenOf, Builtin.firstCells, go_sem]
  · have hp : 0 < ys.length := List.length_pos_iff.2 hne
    obtain ⟨g, cap', w', hr, h2, h3, h4, h5⟩ := run_append_lies (P := Tryz.prog) w 22 ty base 44 i0 _ 2 32 Tryz.underlying22 hi0 hz0 hz1 hz2 rfl (by decide) v xs.length (hrs xs) hown ⟨b, off, none⟩ ys.length cap (hrs ys) (hrs_length ys) (fun j u hj => by
      have hlt := (List.getElem?_eq_some_iff.1 hj).1
      rw [hrs_length] at hlt
      rw [addr_addS]
      have h1 := hc (j / 2) (by omega) (j % 2) (Nat.mod_lt _ (by omega))
      rw [← hrs_at ys (j / 2) (j % 2) (by omega) (Nat.mod_lt _ (by omega)), show j / 2 * 2 + j % 2 = j from by omega, hj] at h1
      rw [← h1]
      congr 2
      omega) (hrs_one ys) hp (by unfold maxLen; omega) (by omega) hbase _ rfl
    refine ⟨_, w', hr, by rw [List.length_append, hrs_append]; exact h2, h3, ?_⟩
    rcases h4 with h4 | h4
    · exact .inl (by rw [h4]; rfl)
    · exact .inr (by rw [h4]; rfl)

theorem wpList_appw {P : Program} {ops : Array Oper} {rest : List Oper} {o : Oper} {a : Act} {Q : Exit → Act → World → Prop} {w : World} (hg : o.guard = none) (s x : Operand) (t : TypeId) (hop : o.op = Op.call { callee := Callee.builtin Builtin.append, args := #[s, x], argTypes := #[t, t] })
    (v sx : Value) (hs : a.eval s = v) (hx : a.eval x = sx) (v' : Value) (w' : World) (hrun : (Builtin.append_ #[t, t] o.type #[v, sx]).run P w = .ok v' w') (hk : wpList P ops Q rest (a.put o.dst v') w') : wpList P ops Q (o :: rest) a w :=
  wpList_plain hg fun K hK => wp_app s x t hop v sx hs hx v' w' hrun (hK _ _ hk)
theorem ownM_made (w : World) : (w.alloc (.cells #[] 44)).ownsRow w.heap.size 44 2 (.slice (some ⟨w.heap.size, 0, none⟩) 0 0) ([] : List Hr).length (hrs []) :=
  ⟨rfl, .inr ⟨w.heap.size, 0, #[], rfl, Nat.le_refl _, heap_alloc_new w _, Nat.le_refl _, by unfold maxLen; omega, rfl, rfl⟩⟩
/-- A copy of a list in memory of its own. -/
theorem copyH (w : World) (ty : TypeId) (n₀ : Nat) (sv : Value) (ys : List Hr) (hI : RdM n₀ w sv ys) (hn : n₀ ≤ w.heap.size) (hs : ys.length ≤ 10000) :
    ∃ v' w', (Builtin.append_ #[22, 22] ty #[.slice (some ⟨w.heap.size, 0, none⟩) 0 0, sv]).run Tryz.prog (w.alloc (.cells #[] 44)) = .ok v' w' ∧ w'.ownsRow w.heap.size 44 2 v' ys.length (hrs ys) ∧ Later w w' := by
  have la : Later w (w.alloc (.cells #[] 44)) := (Below.refl _ _).alloc (Nat.le_refl _) _
  obtain ⟨v', w', h1, h2, h3, h4⟩ := appH (w.alloc (.cells #[] 44)) ty w.heap.size n₀ _ [] sv ys (ownM_made w) (hI.below (la.mono hn)) la.size (by simpa using hs)
  refine ⟨v', w', h1, by simpa using h2, ?_⟩
  exact Below.trans la ⟨h3.os, h3.tape, h3.output, h3.size, fun k hk => h3.block k (by simp; omega) (fun e => by simp [Value.ownBlock] at e; omega)⟩


set_option maxHeartbeats 2000000 in
theorem cloneH_any (v : Value) (l : List Hr) (w : World) (hI : RdM w.heap.size w v l) (hl : l.length ≤ 5000) :
    Calls Tryz.prog 38 #[v] w fun e w' => Later w w' ∧ ∃ v', e = .returned v' ∧ w'.ownsRow w.heap.size 44 2 v' l.length (hrs l) := by
  obtain ⟨u, W1, hrun, hrow, hlat⟩ := copyH w 22 w.heap.size v l hI (Nat.le_refl _) (by omega)
  obtain ⟨av, cv, rfl, _, _⟩ := hI.slice
  obtain ⟨au, cu, rfl⟩ := owns_form hrow
  have HRUN := hide hrun
  have HROW := hide hrow
  have HI := hide hI
  clear hrun hrow hI
  go_enter Tryz.func38, Tryz.ntmps38
  cases av with
  | none =>
    go_wp2_with fail
    rw [Go.Lib.run_eql_slice_nil _ _ _ _ _ _ _ _ Tryz.underlying22]
    go_wp2_with fail
    go_ret
    obtain rfl : l = [] := by
      rcases HI.out with ⟨_, _, _, e2, _⟩ | ⟨g2, off, cap2, e, _⟩
      · exact e2
      · cases e
    exact ⟨Later.refl _, _, rfl, rfl, .inl ⟨rfl, rfl⟩⟩
  | some a =>
    go_wp2_with fail
    rw [Go.Lib.run_eql_slice_nil _ _ _ _ _ _ _ _ Tryz.underlying22]
    go_wp2_with (at_builtin; refine wpList_appw rfl (.tmp 5) (.tmp 6) 22 rfl _ _ rfl rfl _ W1 HRUN.out ?_)
    go_ret
    exact ⟨hlat, _, rfl, HROW.out⟩

set_option maxRecDepth 100000 in
set_option maxHeartbeats 4000000 in
theorem own_any (st : ByteArray) (sv sb : Value) (hs : List Hr) (zb : List Int) (w : World) (hH : RdM w.heap.size w sv hs) (hB : Rd w.heap.size w sb zb) (hl : hs.length ≤ 5000) (hz : zb.length ≤ 140737488355328) :
    Calls Tryz.prog 22 #[.agg #[.string st, sv, sb]] w fun e w' => Later w w' ∧ ∃ vh vb, e = .returned (.agg #[.string st, vh, vb]) ∧ w'.ownsRow w.heap.size 44 2 vh hs.length (hrs hs) ∧ Ow w.heap.size w' vb zb := by
  obtain ⟨sa, scp, rfl, hsc1, hsc2⟩ := hH.slice
  obtain ⟨ba, bcp, rfl, hbc1, hbc2⟩ := hB.slice
  have hb4 : Later w ((w.alloc (.cells #[.string st, .slice sa hs.length scp, .slice ba zb.length bcp] 25)).alloc (.cells #[.string ⟨#[]⟩, .slice none 0 0, .slice none 0 0] 25)) := ((Below.refl _ _).alloc (Nat.le_refl _) _).alloc (by simp) _
  have C0 := hide (show ((w.alloc (.cells #[.string st, .slice sa hs.length scp, .slice ba zb.length bcp] 25)).alloc (.cells #[.string ⟨#[]⟩, .slice none 0 0, .slice none 0 0] 25)).heap[w.heap.size]? = some (.cells #[.string st, .slice sa hs.length scp, .slice ba zb.length bcp] 25 (0, 0)) from (Below.heap_alloc _ _ _ (by simp)).trans (heap_alloc_new w _))
  have C1 : Hid (((w.alloc (.cells #[.string st, .slice sa hs.length scp, .slice ba zb.length bcp] 25)).alloc (.cells #[.string ⟨#[]⟩, .slice none 0 0, .slice none 0 0] 25)).heap[w.heap.size + 1]? = some (.cells #[.string ⟨#[]⟩, .slice none 0 0, .slice none 0 0] 25 (0, 0))) := by
    have := heap_alloc_new (w.alloc (.cells #[.string st, .slice sa hs.length scp, .slice ba zb.length bcp] 25)) (.cells #[.string ⟨#[]⟩, .slice none 0 0, .slice none 0 0] 25)
    rw [World.size_alloc] at this
    exact this
  go_enter Tryz.func22, Tryz.ntmps22
  go_upto_region 1 with fail
  generalize (w.alloc (.cells #[.string st, .slice sa hs.length scp, .slice ba zb.length bcp] 25)).alloc (.cells #[.string ⟨#[]⟩, .slice none 0 0, .slice none 0 0] 25) = w4 at *
  generalize hgc : w.heap.size = gc at *
  refine wp_calmS ?_
  refine anyU_begin (R1 := Later) (R2 := fun _ _ => True) (D := [9]) 10 rfl (by kernel_rfl) ?_
  have ld : Later w4 w4.drew := Later.drew w4
  generalize w4.drew = Wd at *
  have LWd : Later w Wd := Later.trans hb4 ld
  have qM : ∀ v1, Later Wd v1 → ∀ j, v1.cell? ⟨gc, j, none⟩ = #[Value.string st, .slice sa hs.length scp, .slice ba zb.length bcp][j]? := fun v1 hv => block_cell (later_keep (ld.trans hv) C0.out)
  refine anyU_val Later.pre 0 [1, 8, 9] rfl (by rfl) (by rfl) (by kernel_rfl) (by kernel_rfl) (by kernel_rfl) (by kernel_rfl) (by kernel_rfl) (fun _ _ _ _ h => by cases h.1) (by rfl) ?_; apply Exists.intro; refine ⟨fun v1 hv1 => ?_, ?_⟩; (· (go_simp; rfl)); simp only [Act.put, List.setIfInBounds_toArray, List.set_cons_zero, List.set_cons_succ]
  refine anyU_val Later.pre 1 [8, 9] rfl (by rfl) (by rfl) (by kernel_rfl) (by kernel_rfl) (by kernel_rfl) (by kernel_rfl) (by kernel_rfl) (fun _ _ _ _ h => by cases h.1) (by rfl) ?_; apply Exists.intro; refine ⟨fun v1 hv1 => ?_, ?_⟩; (· (go_simp; rfl)); simp only [Act.put, List.setIfInBounds_toArray, List.set_cons_zero, List.set_cons_succ]
  refine anyU_val Later.pre 2 [3, 4, 7, 8, 9] rfl (by rfl) (by rfl) (by kernel_rfl) (by kernel_rfl) (by kernel_rfl) (by kernel_rfl) (by kernel_rfl) (fun _ _ _ _ h => by cases h.1) (by rfl) ?_; apply Exists.intro; refine ⟨fun v1 hv1 => ?_, ?_⟩; (· (go_simp; rfl)); simp only [Act.put, List.setIfInBounds_toArray, List.set_cons_zero, List.set_cons_succ]
  refine anyU_val Later.pre 3 [4, 7, 8, 9] rfl (by rfl) (by rfl) (by kernel_rfl) (by kernel_rfl) (by kernel_rfl) (by kernel_rfl) (by kernel_rfl) (fun _ _ _ _ h => by cases h.1) (by rfl) ?_; apply Exists.intro; refine ⟨fun v1 hv1 => ?_, ?_⟩; (· (go_simp; rfl)); simp only [Act.put, List.setIfInBounds_toArray, List.set_cons_zero, List.set_cons_succ]
  refine anyU_val Later.pre 5 [6, 7, 8, 9] rfl (by rfl) (by rfl) (by kernel_rfl) (by kernel_rfl) (by kernel_rfl) (by kernel_rfl) (by kernel_rfl) (fun _ _ _ _ h => by cases h.1) (by rfl) ?_; apply Exists.intro; refine ⟨fun v1 hv1 => ?_, ?_⟩; (· (go_simp; rfl)); simp only [Act.put, List.setIfInBounds_toArray, List.set_cons_zero, List.set_cons_succ]
  refine anyU_val Later.pre 6 [7, 8, 9] rfl (by rfl) (by rfl) (by kernel_rfl) (by kernel_rfl) (by kernel_rfl) (by kernel_rfl) (by kernel_rfl) (fun _ _ _ _ h => by cases h.1) (by rfl) ?_; apply Exists.intro; refine ⟨fun v1 hv1 => ?_, ?_⟩; (· (go_simp; rfl)); simp only [Act.put, List.setIfInBounds_toArray, List.set_cons_zero, List.set_cons_succ]
  clear qM
  refine anyU_one 4 rfl (by kernel_rfl) (by rfl) ?_
  refine wp_enter 38 #[.slice sa hs.length scp] (by go_simp) ?_
  refine (cloneH_any _ hs Wd ((show RdM w.heap.size w (.slice sa hs.length scp) hs from hgc ▸ hH).later LWd) hl).mono ?_
  rintro e W1 ⟨l1, v1, rfl, hrow1⟩
  obtain ⟨va, vc, rfl⟩ := owns_form hrow1
  refine ⟨Rj_out (by rfl) l1, ?_⟩
  simp only [Act.put, List.setIfInBounds_toArray, List.set_cons_zero, List.set_cons_succ]
  refine anyU_one 7 rfl (by kernel_rfl) (by rfl) ?_
  refine wp_enter 39 #[.slice ba zb.length bcp] (by go_simp) ?_
  refine (cloneb_any _ zb W1 hz ((show Rd w.heap.size w (.slice ba zb.length bcp) zb from hgc ▸ hB).later (LWd.trans l1))).mono ?_
  rintro e W5 ⟨xa, xc, rfl, hO, l2⟩
  have l2' : Later W1 W5 := l2
  refine ⟨Rj_out (by rfl) l2', ?_⟩
  simp only [Act.put, List.setIfInBounds_toArray, List.set_cons_zero, List.set_cons_succ]
  refine anyU_val Later.pre 8 [9] rfl (by rfl) (by rfl) (by kernel_rfl) (by kernel_rfl) (by kernel_rfl) (by kernel_rfl) (by kernel_rfl) (fun _ _ _ _ h => by cases h.1) (by rfl) ?_; apply Exists.intro; refine ⟨fun v1 hv1 => ?_, ?_⟩; (· (go_simp; rfl)); simp only [Act.put, List.setIfInBounds_toArray, List.set_cons_zero, List.set_cons_succ]
  have HA := later_keep (ld.trans (l1.trans l2')) C1.out
  have kA := block_cell HA
  have fA := block_frozen HA
  refine anyU_one 9 rfl (by kernel_rfl) (by rfl) ?_
  unfold Oper.wp
  go_simp
  refine ⟨Rj_in (by rfl) trivial, ?_⟩
  clear kA fA
  generalize hV : (((W5.setCell ⟨gc + 1, 0, none⟩ _).setCell ⟨gc + 1, 1, none⟩ _).setCell ⟨gc + 1, 2, none⟩ _) = V8
  have hV9 : V8 = putRow W5 (gc + 1) 0 [.string st, .slice va hs.length vc, .slice xa zb.length xc] := hV.symm
  have hb8 : But (fun b => b = gc + 1) W5 V8 := by rw [hV9]; exact putRow_but (E := fun b => b = gc + 1) (n := gc + 1) rfl _ _ _ _ (But.refl _ _)
  have p8 := putRow_all [.string st, .slice va hs.length vc, .slice xa zb.length xc] HA rfl
  rw [← hV9] at p8
  clear hV hV9
  refine anyU_done (by kernel_rfl) ?_
  refine ⟨rfl, ?_⟩
  have LL := LWd.trans (l1.trans l2')
  have hw8 : Later w V8 := Below.trans LL (hb8.below LL.size (fun k h e => by omega))
  have hr8 := own_but (base' := gc) (ownsS_ct hrow1 (CTs.of l2')) hb8 HA (by decide) (by rw [← hgc]; exact LWd.size)
  have hO8 : Ow gc V8 (.slice xa zb.length xc) zb := (hO.but hb8 (fun b h e => by have := (Array.getElem?_eq_some_iff.1 (later_keep (ld.trans l1) C1.out)).1; omega)).mono (by rw [← hgc]; exact (LWd.trans l1).size)
  have P8 := block_cell p8
  go_wp2_with fail
  exact bodyPost_ret (v := .agg #[.string st, .slice va hs.length vc, .slice xa zb.length xc]) (by simp [results, Tryz.results22, go_sem, P8]) rfl ⟨hw8, _, _, rfl, (by rw [hgc]; exact hr8), (by rw [hgc]; exact hO8)⟩
end Go.Proofs.YtibjgaelaijgpaaGreatDoor
