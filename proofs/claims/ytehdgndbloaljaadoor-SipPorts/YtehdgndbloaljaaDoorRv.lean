/- Regions that draw their order: some operations (those of D) may turn more than the others; what is read ahead of them is taken first. -/
import Derived.Test.YtehdgndbloaljaaDoorRu
namespace Go.Proofs.YtehdgndbloaljaaDoor
open Go.RowKit Go.Shelf
set_option maxRecDepth 100000
set_option linter.unusedVariables false

def Rj (R1 R2 : World → World → Prop) (D : List Nat) (j : Nat) : World → World → Prop := if D.contains j = true then R2 else R1
theorem Rj_in {R1 R2 : World → World → Prop} {D : List Nat} {j : Nat} (h : D.contains j = true) {w w' : World} (k : R2 w w') : Rj R1 R2 D j w w' := by unfold Rj; rw [if_pos h]; exact k
theorem Rj_out {R1 R2 : World → World → Prop} {D : List Nat} {j : Nat} (h : D.contains j = false) {w w' : World} (k : R1 w w') : Rj R1 R2 D j w w' := by unfold Rj; rw [if_neg (by rw [h]; simp)]; exact k

section
variable {P : Program} {ops : Array Oper} {Q : Exit → Act → World → Prop} {md : Region.Mode} {R1 R2 S : World → World → Prop} {D : List Nat}
def wpAnyU (P : Program) (md : Region.Mode) (ops : Array Oper) (Q : Exit → Act → World → Prop) (R1 R2 : World → World → Prop) (D : List Nat) : Nat → Array Bool → Act → World → Prop
  | 0, listed, a, w => Region.ready md ops listed = [] ∧ Q .normal a w
  | fuel + 1, listed, a, w =>
    (Region.ready md ops listed = [] → Q .normal a w) ∧
    ∀ i ∈ Region.ready md ops listed, wpOp P ops Q i (fun a' w'' => Rj R1 R2 D i w w'' ∧ wpAnyU P md ops Q R1 R2 D fuel (listed.setIfInBounds i true) a' w'') a w

theorem wpAny_of_U : ∀ (fuel : Nat) (listed : Array Bool) (a : Act) (w : World), wpAnyU P md ops Q R1 R2 D fuel listed a w → wpAny P md ops Q fuel listed a w
  | 0, _, _, _, h => h
  | fuel + 1, _, _, _, h => ⟨h.1, fun i hi => wpOp_mono (fun a' w' h' => wpAny_of_U fuel _ a' w' h'.2) (h.2 i hi)⟩

theorem wpAnyU_first (hre : ∀ a, S a a) (ht : ∀ a b c, S a b → S b c → S a c) {i : Nat} {oi : Oper} {v : Value} (hi : ops[i]? = some oi) (hself : ∀ w, Rj R1 R2 D i w w) (hsel : ∀ (j : Nat) (o : Oper) cs b, ops[j]? = some o → o.op ≠ .select cs b)
    (hQ : ∀ c a w, Q (.panic c) (a.put oi.dst v) w → Q (.panic c) a w) (Inv : Array Bool → Prop)
    (hInv : ∀ listed, Inv listed → listed.getD i true = false → ∀ j ∈ Region.ready md ops listed, j ≠ i → (∀ w w', Rj R1 R2 D j w w' → S w w') ∧ Inv (listed.setIfInBounds j true)) :
    ∀ (fuel : Nat) (listed : Array Bool) (a : Act) (w : World), Inv listed →
      (∀ j oj, ops[j]? = some oj → j ≠ i → listed.getD j true = false → (∀ e ∈ oj.after, Region.binds md e = true → e.on ≠ i) → oi.apart ops oj = true) →
      i ∈ Region.ready md ops listed → GivesG P ops S oi v a w →
      wpAnyU P md ops Q R1 R2 D fuel (listed.setIfInBounds i true) (a.put oi.dst v) w → wpAnyU P md ops Q R1 R2 D (fuel + 1) listed a w := by
  intro fuel
  induction fuel with
  | zero =>
    intro listed a w _ _ hr hy H
    refine ⟨fun h => (by rw [h] at hr; cases hr), fun j hj => ?_⟩
    by_cases hji : j = i
    · subst hji; exact hy.wpOp hre hi ⟨hself _, H⟩
    · have := ready_mono hj hji
      rw [H.1] at this
      cases this
  | succ fuel ih =>
    intro listed a w hinv hfree hr hy H
    refine ⟨fun h => (by rw [h] at hr; cases hr), fun j hj => ?_⟩
    by_cases hji : j = i
    · subst hji; exact hy.wpOp hre hi ⟨hself _, H⟩
    · have h1 := H.2 j (ready_mono hj hji)
      obtain ⟨hjun, oj, hoj, hall⟩ := mem_ready.1 hj
      have hnot : ∀ e ∈ oj.after, Region.binds md e = true → e.on ≠ i := fun e he hb heq => by
        have h1 := hall e he hb
        have h0 := (mem_ready.1 hr).1
        rw [heq] at h1
        rcases Nat.lt_or_ge i listed.size with h' | h'
        · simp [h'] at h0 h1; rw [h0] at h1; cases h1
        · simp [Array.getElem?_eq_none h'] at h1
      have h2 := wpOp_putG hoj (hfree j oj hoj hji hjun hnot) (fun cs b => hsel i oi cs b hi) (fun cs b => hsel j oj cs b hoj) hQ hy h1
      have hfree' : ∀ k ok, ops[k]? = some ok → k ≠ i → (listed.setIfInBounds j true).getD k true = false →
          (∀ e ∈ ok.after, Region.binds md e = true → e.on ≠ i) → oi.apart ops ok = true := fun k ok hk hki hun hno => by
        refine hfree k ok hk hki ?_ hno
        by_cases hjk : j = k
        · subst hjk; exact hjun
        · rw [getD_set_ne true hjk] at hun; exact hun
      obtain ⟨hs, hinv'⟩ := hInv listed hinv (mem_ready.1 hr).1 j hj hji
      refine wpOp_mono (fun a' w'' h3 => ⟨h3.2.1, ih (listed.setIfInBounds j true) a' w'' hinv' hfree' (ready_mono hr (Ne.symm hji)) (h3.1.up ht (hs _ _ h3.2.1)) ?_⟩) h2
      rw [Array.setIfInBounds_comm _ _ hji]
      exact h3.2.2
/-- None of D can be taken as long as i is not. -/
def blocks (md : Region.Mode) (ops : Array Oper) (D : List Nat) (i : Nat) : Bool := D.all fun d => match ops[d]? with
  | some o => o.after.any fun e => Region.binds md e && (e.on == i || D.contains e.on)
  | none => false
theorem blocks_spec {i : Nat} (h : blocks md ops D i = true) {listed : Array Bool} (hi : listed.getD i true = false) (hD : ∀ d ∈ D, listed.getD d true = false) {j : Nat} (hj : j ∈ Region.ready md ops listed) : j ∉ D := fun hjD => by
  obtain ⟨_, o, ho, hall⟩ := mem_ready.1 hj
  unfold blocks at h
  rw [List.all_eq_true] at h
  have h1 := h j hjD
  rw [ho] at h1
  simp only [Array.any_eq_true] at h1
  obtain ⟨k, hk, he⟩ := h1
  simp only [Bool.and_eq_true, Bool.or_eq_true, beq_iff_eq] at he
  have hl := hall o.after[k] (Array.getElem_mem hk) he.1
  have no : ∀ x, listed.getD x true = false → listed.getD x false = true → False := fun x h0 h1 => by
    rcases Nat.lt_or_ge x listed.size with h' | h'
    · simp [h'] at h0 h1; rw [h0] at h1; cases h1
    · simp [Array.getElem?_eq_none h'] at h1
  rcases he.2 with e | e
  · rw [e] at hl
    exact no i hi hl
  · exact no _ (hD _ (by simpa using e)) hl
end

section
variable {P : Program} {l : List Oper} {Q : Exit → Act → World → Prop} {fuel : Nat} {listed : Array Bool} {a : Act} {w : World} {R1 R2 S : World → World → Prop} {D : List Nat}
/-- What is read ahead of those of D: none of B, among which they are, can be taken as long as it is not. -/
theorem anyU_val (hp : Pre R1) (i : Nat) (B : List Nat) {oi : Oper} (hi : nthOp l i = some oi) (hiD : D.contains i = false) (hsub : D.all (fun d => B.contains d) = true) (hbl : blocks .any l.toArray B i = true) (hun : B.all (fun d => !(listed.getD d true)) = true)
    (hs : Region.noSelect l.toArray = true) (hf : Region.free .any l.toArray listed i = true) (hr : (Region.ready .any l.toArray listed).contains i = true)
    (hQ : ∀ v c a w, Q (.panic c) (a.put oi.dst v) w → Q (.panic c) a w) (hg : Region.wanted oi (yielded l.toArray a.tmps) = true)
    (h : ∃ v, (∀ w', R1 w w' → (execOp a.eval oi).run P w' = .ok (.value v) w') ∧ wpAnyU P .any l.toArray Q R1 R2 D fuel (listed.setIfInBounds i true) (a.put oi.dst v) w) : wpAnyU P .any l.toArray Q R1 R2 D (fuel + 1) listed a w := by
  obtain ⟨v, h1, h2⟩ := h
  have hi' : l.toArray[i]? = some oi := by rw [← hi, nthOp_eq]; simp
  have hunp : ∀ d ∈ B, listed.getD d true = false := fun d hd => by
    have := List.all_eq_true.1 hun d hd
    simpa using this
  refine wpAnyU_first (S := R1) hp.1 hp.2 hi' (fun w => Rj_out hiD (hp.1 w)) (Region.noSelect_spec hs) (hQ v) (fun listed => ∀ d ∈ B, listed.getD d true = false) ?_ fuel listed a w hunp (Region.free_spec hi' hf) (by simpa using hr) ⟨hg, h1⟩ h2
  intro listed' hinv hiu j hj hji
  have hjB := blocks_spec hbl hiu hinv hj
  have hjD : j ∉ D := fun hd => hjB (by simpa using List.all_eq_true.1 hsub j hd)
  have hjc : D.contains j = false := by cases hc : D.contains j with | false => rfl | true => exact absurd (by simpa using hc) hjD
  refine ⟨fun w w' hR => by unfold Rj at hR; rw [if_neg (by rw [hjc]; simp)] at hR; exact hR, fun d hd => ?_⟩
  by_cases hdj : j = d
  · subst hdj; exact absurd hd hjB
  · rw [getD_set_ne true hdj]; exact hinv d hd
/-- What hangs on no memory. -/
theorem anyU_pure (h1r : ∀ w, R1 w w) (h2r : ∀ w, R2 w w) (i : Nat) {oi : Oper} (hi : nthOp l i = some oi)
    (hs : Region.noSelect l.toArray = true) (hf : Region.free .any l.toArray listed i = true) (hr : (Region.ready .any l.toArray listed).contains i = true)
    (hQ : ∀ v c a w, Q (.panic c) (a.put oi.dst v) w → Q (.panic c) a w) (hg : Region.wanted oi (yielded l.toArray a.tmps) = true)
    (h : ∃ v, (∀ w', (execOp a.eval oi).run P w' = .ok (.value v) w') ∧ wpAnyU P .any l.toArray Q R1 R2 D fuel (listed.setIfInBounds i true) (a.put oi.dst v) w) : wpAnyU P .any l.toArray Q R1 R2 D (fuel + 1) listed a w := by
  obtain ⟨v, h1, h2⟩ := h
  have hi' : l.toArray[i]? = some oi := by rw [← hi, nthOp_eq]; simp
  exact wpAnyU_first (S := fun _ _ => True) (fun _ => trivial) (fun _ _ _ _ _ => trivial) hi' (fun w => by unfold Rj; split; (· exact h2r w); (· exact h1r w)) (Region.noSelect_spec hs) (hQ v) (fun _ => True) (fun _ _ _ _ _ _ => ⟨fun _ _ _ => trivial, trivial⟩) fuel listed a w trivial (Region.free_spec hi' hf) (by simpa using hr) ⟨hg, fun w' _ => h1 w'⟩ h2
theorem anyU_begin {id : Nat} (n : Nat) (hn : l.length = n) (hm : P.follows .mixedOrders = true)
    (h : wpAnyU P .any l.toArray Q R1 R2 D n (Array.replicate n false) a w.drew) : (Code.region id l.toArray true).wp P Q a w := by
  subst hn
  refine wp_region_any hm (wpAny_of_U (R1 := R1) (R2 := R2) (D := D) _ _ _ _ ?_)
  simpa using h
theorem anyU_done (hr : Region.ready .any l.toArray listed = []) (h : Q .normal a w) : wpAnyU P .any l.toArray Q R1 R2 D fuel listed a w := by
  cases fuel with
  | zero => exact ⟨hr, h⟩
  | succ n => exact ⟨fun _ => h, by rw [hr]; simp⟩
theorem anyU_one (i : Nat) {oi : Oper} (hi : nthOp l i = some oi) (hr : Region.ready .any l.toArray listed = [i]) (hg : Region.wanted oi (yielded l.toArray a.tmps) = true)
    (h1 : oi.wp P a w (fun a' w'' => Rj R1 R2 D i w w'' ∧ wpAnyU P .any l.toArray Q R1 R2 D fuel (listed.setIfInBounds i true) a' w'') Q) :
    wpAnyU P .any l.toArray Q R1 R2 D (fuel + 1) listed a w := by
  have hi' : l.toArray[i]? = some oi := by rw [← hi, nthOp_eq]; simp
  refine ⟨fun h0 => (by rw [hr] at h0; cases h0), fun k hk => ?_⟩
  rw [hr] at hk
  unfold wpOp
  obtain rfl : k = i := by simpa using hk
  rw [hi']; simp only [hg, if_true]; exact .inl h1
end
end Go.Proofs.YtehdgndbloaljaaDoor
