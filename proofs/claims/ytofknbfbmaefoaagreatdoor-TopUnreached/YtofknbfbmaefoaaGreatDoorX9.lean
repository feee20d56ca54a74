import Derived.Test.YtofknbfbmaefoaaGreatDoorX18
import Derived.OrdersIn
import Derived.RangeFuncCalls
import Derived.Test.YtofknbfbmaefoaaGreatDoorX19
import Derived.Test.YtofknbfbmaefoaaGreatDoorX10
import Derived.Deep.DeepCutAuto
import Derived.MapKept
namespace Go.Proofs.YtofknbfbmaefoaaGreatDoor
open Go.RowKit Go.Shelf
set_option maxRecDepth 100000
set_option linter.unusedVariables false
section
variable {P : Program} {ops : Array Oper} {Q : Exit → Act → World → Prop} {md : Region.Mode} {R : World → World → Prop}
def GivesG (P : Program) (ops : Array Oper) (R : World → World → Prop) (o : Oper) (v : Value) (a : Act) (w : World) : Prop :=
 Region.wanted o (yielded ops a.tmps) = true ∧ ∀ w', R w w' → (execOp a.eval o).run P w' = .ok (.value v) w'
theorem GivesG.of_same {o : Oper} {v : Value} {a a' : Act} {w : World} (hy : GivesG P ops R o v a w) (he : execOp a'.eval o = execOp a.eval o)
  (hw : Region.wanted o (yielded ops a'.tmps) = Region.wanted o (yielded ops a.tmps)) : GivesG P ops R o v a' w := by
 unfold GivesG at *
 rw [he, hw]
 exact hy
theorem GivesG.up {o : Oper} {v : Value} {a : Act} {w w' : World} (ht : ∀ a b c, R a b → R b c → R a c) (hy : GivesG P ops R o v a w) (h : R w w') : GivesG P ops R o v a w' := ⟨hy.1, fun w'' h' => hy.2 w'' (ht _ _ _ h h')⟩
theorem wpOp_putG {j : Nat} {oi oj : Oper} {v : Value} (hj : ops[j]? = some oj) (hap : oi.apart ops oj = true)
  (hsi : ∀ cs b, oi.op ≠ .select cs b) (hsj : ∀ cs b, oj.op ≠ .select cs b)
  (hQ : ∀ c a w, Q (.panic c) (a.put oi.dst v) w → Q (.panic c) a w) {K : Act → World → Prop} {a : Act} {w w₀ : World}
  (hy : GivesG P ops R oi v a w₀) (h : wpOp P ops Q j K (a.put oi.dst v) w) :
  wpOp P ops Q j (fun a' w' => GivesG P ops R oi v a' w₀ ∧ K (a'.put oi.dst v) w') a w := by
 obtain ⟨h1, h2, h3⟩ := Oper.apart_spec hap
 have keep : ∀ (a : Act), GivesG P ops R oi v a w₀ → ∀ u, GivesG P ops R oi v (a.put oj.dst u) w₀ := fun a hy u =>
  hy.of_same (execOp_put oi hsi a oj.dst u h3) (wanted_put oi a oj.dst u h3)
 have keepD : ∀ d, GivesG P ops R oi v { a with defers := d :: a.defers } w₀ := fun d => hy.of_same rfl rfl
 unfold wpOp at *
 simp only [hj] at *
 rw [wanted_put oj a oi.dst v h1] at h
 split
 ·rename_i hw
  simp only [hw, if_true] at h
  rcases h with h | ⟨hasks, hlets⟩
  case inr => exact .inr ⟨by unfold Oper.asks at *; rw [execOp_put oj hsj a oi.dst v h1] at hasks; exact hasks, hlets⟩
  refine .inl ?_
  unfold Oper.wp at *
  rw [execOp_put oj hsj a oi.dst v h1] at h
  generalize (execOp a.eval oj).run P w = r at *
  cases r with
  | ok n w' =>
   cases n <;> simp only [Oper.upon] at h ⊢
   case value u => exact ⟨keep a hy u, by rw [← Act.put_comm a v u h2]; exact h⟩
   case skip => exact ⟨keep a hy _, by rw [← Act.put_comm a v undef h2]; exact h⟩
   case defer d =>
    refine ⟨keep _ (keepD d) _, ?_⟩
    rw [← Act.put_comm _ v undef h2, ← Act.put_defers]
    exact h
   case enter f args =>
    refine Calls.mono h fun e w'' he => ?_
    cases e with
    | returned u => exact ⟨keep a hy u, by rw [← Act.put_comm a v u h2]; exact he⟩
    | panicked c => exact hQ _ _ _ he
    | outgrown => exact he
   case row row args => exact Rows.mono h fun u w'' he => ⟨keep a hy u, by rw [← Act.put_comm a v u h2]; exact he⟩
  | halt x w' =>
   cases x <;> simp only [Oper.upon] at h ⊢
   case panic u => exact hQ _ _ _ h
 ·rename_i hw
  simp only [hw] at h
  exact ⟨keep a hy _, by rw [← Act.put_comm a v undef h2]; exact h⟩
theorem GivesG.wpOp {i : Nat} {o : Oper} {v : Value} {a : Act} {w : World} (hr : ∀ a, R a a) (hi : ops[i]? = some o) (hy : GivesG P ops R o v a w)
  {K : Act → World → Prop} (h : K (a.put o.dst v) w) : Go.wpOp P ops Q i K a w := by
 unfold Go.wpOp
 simp only [hi, hy.1, if_true]
 refine .inl ?_
 unfold Oper.wp
 rw [hy.2 w (hr w)]
 exact h
end
section
variable {P : Program} {l : List Oper} {Q : Exit → Act → World → Prop} {fuel : Nat} {listed : Array Bool} {a : Act} {w : World} {R : World → World → Prop}
end
def Rj (R1 R2 : World → World → Prop) (D : List Nat) (j : Nat) : World → World → Prop := if D.contains j = true then R2 else R1
theorem Rj_in {R1 R2 : World → World → Prop} {D : List Nat} {j : Nat} (h : D.contains j = true) {w w' : World} (k : R2 w w') : Rj R1 R2 D j w w' := by unfold Rj; rw [if_pos h]; exact k
theorem Rj_out {R1 R2 : World → World → Prop} {D : List Nat} {j : Nat} (h : D.contains j = false) {w w' : World} (k : R1 w w') : Rj R1 R2 D j w w' := by unfold Rj; rw [if_neg (by rw [h]; simp)]; exact k
section
variable {P : Program} {ops : Array Oper} {Q : Exit → Act → World → Prop} {md : Region.Mode} {R1 R2 S : World → World → Prop} {D : List Nat}
def wpAnyU (P : Program) (md : Region.Mode) (ops : Array Oper) (Q : Exit → Act → World → Prop) (R1 R2 : World → World → Prop) (D : List Nat) : Nat → Array Bool → Act → World → Prop
 | 0, listed, a, w => Region.ready md ops listed = [] ∧ Q .normal a w
 | fuel + 1, listed, a, w =>
  (Region.ready md ops listed = [] → Q .normal a w) ∧
  ∀ i ∈ Region.ready md ops listed, wpOp P ops Q i (fun a' w'' => Rj R1 R2 D i w w'' ∧ wpAnyU P md ops Q R1 R2 D fuel (listed.setIfInBounds i true) a' w'') a w
theorem wpAny_of_U : ∀ (fuel : Nat) (listed : Array Bool) (a : Act) (w : World), wpAnyU P md ops Q R1 R2 D fuel listed a w → wpAny P md ops Q fuel listed a w
 | 0, _, _, _, h => h
 | fuel + 1, _, _, _, h => ⟨h.1, fun i hi => wpOp_mono (fun a' w' h' => wpAny_of_U fuel _ a' w' h'.2) (h.2 i hi)⟩
theorem wpAnyU_first (hre : ∀ a, S a a) (ht : ∀ a b c, S a b → S b c → S a c) {i : Nat} {oi : Oper} {v : Value} (hi : ops[i]? = some oi) (hself : ∀ w, Rj R1 R2 D i w w) (hsel : ∀ (j : Nat) (o : Oper) cs b, ops[j]? = some o → o.op ≠ .select cs b)
  (hQ : ∀ c a w, Q (.panic c) (a.put oi.dst v) w → Q (.panic c) a w) (Inv : Array Bool → Prop)
  (hInv : ∀ listed, Inv listed → listed.getD i true = false → ∀ j ∈ Region.ready md ops listed, j ≠ i → (∀ w w', Rj R1 R2 D j w w' → S w w') ∧ Inv (listed.setIfInBounds j true)) :
  ∀ (fuel : Nat) (listed : Array Bool) (a : Act) (w : World), Inv listed →
   (∀ j oj, ops[j]? = some oj → j ≠ i → listed.getD j true = false → (∀ e ∈ oj.after, Region.binds md e = true → e.on ≠ i) → oi.apart ops oj = true) →
   i ∈ Region.ready md ops listed → GivesG P ops S oi v a w →
   wpAnyU P md ops Q R1 R2 D fuel (listed.setIfInBounds i true) (a.put oi.dst v) w → wpAnyU P md ops Q R1 R2 D (fuel + 1) listed a w := by
 intro fuel
 induction fuel with
 | zero =>
  intro listed a w _ _ hr hy H
  refine ⟨fun h => (by rw [h] at hr; cases hr), fun j hj => ?_⟩
  by_cases hji : j = i
  ·subst hji; exact hy.wpOp hre hi ⟨hself _, H⟩
  ·have := ready_mono hj hji
   rw [H.1] at this
   cases this
 | succ fuel ih =>
  intro listed a w hinv hfree hr hy H
  refine ⟨fun h => (by rw [h] at hr; cases hr), fun j hj => ?_⟩
  by_cases hji : j = i
  ·subst hji; exact hy.wpOp hre hi ⟨hself _, H⟩
  ·have h1 := H.2 j (ready_mono hj hji)
   obtain ⟨hjun, oj, hoj, hall⟩ := mem_ready.1 hj
   have hnot : ∀ e ∈ oj.after, Region.binds md e = true → e.on ≠ i := fun e he hb heq => by
    have h1 := hall e he hb
    have h0 := (mem_ready.1 hr).1
    rw [heq] at h1
    rcases Nat.lt_or_ge i listed.size with h' | h'
    ·simp [h'] at h0 h1; rw [h0] at h1; cases h1
    ·simp [Array.getElem?_eq_none h'] at h1
   have h2 := wpOp_putG hoj (hfree j oj hoj hji hjun hnot) (fun cs b => hsel i oi cs b hi) (fun cs b => hsel j oj cs b hoj) hQ hy h1
   have hfree' : ∀ k ok, ops[k]? = some ok → k ≠ i → (listed.setIfInBounds j true).getD k true = false →
     (∀ e ∈ ok.after, Region.binds md e = true → e.on ≠ i) → oi.apart ops ok = true := fun k ok hk hki hun hno => by
    refine hfree k ok hk hki ?_ hno
    by_cases hjk : j = k
    ·subst hjk; exact hjun
    ·rw [getD_set_ne true hjk] at hun; exact hun
   obtain ⟨hs, hinv'⟩ := hInv listed hinv (mem_ready.1 hr).1 j hj hji
   refine wpOp_mono (fun a' w'' h3 => ⟨h3.2.1, ih (listed.setIfInBounds j true) a' w'' hinv' hfree' (ready_mono hr (Ne.symm hji)) (h3.1.up ht (hs _ _ h3.2.1)) ?_⟩) h2
   rw [Array.setIfInBounds_comm _ _ hji]
   exact h3.2.2
def blocks (md : Region.Mode) (ops : Array Oper) (D : List Nat) (i : Nat) : Bool := D.all fun d => match ops[d]? with
 | some o => o.after.any fun e => Region.binds md e && (e.on == i || D.contains e.on)
 | none => false
theorem blocks_spec {i : Nat} (h : blocks md ops D i = true) {listed : Array Bool} (hi : listed.getD i true = false) (hD : ∀ d ∈ D, listed.getD d true = false) {j : Nat} (hj : j ∈ Region.ready md ops listed) : j ∉ D := fun hjD => by
 obtain ⟨_, o, ho, hall⟩ := mem_ready.1 hj
 unfold blocks at h
 rw [List.all_eq_true] at h
 have h1 := h j hjD
 rw [ho] at h1
 simp only [Array.any_eq_true] at h1
 obtain ⟨k, hk, he⟩ := h1
 simp only [Bool.and_eq_true, Bool.or_eq_true, beq_iff_eq] at he
 have hl := hall o.after[k] (Array.getElem_mem hk) he.1
 have no : ∀ x, listed.getD x true = false → listed.getD x false = true → False := fun x h0 h1 => by
  rcases Nat.lt_or_ge x listed.size with h' | h'
  ·simp [h'] at h0 h1; rw [h0] at h1; cases h1
  ·simp [Array.getElem?_eq_none h'] at h1
 rcases he.2 with e | e
 ·rw [e] at hl
  exact no i hi hl
 ·exact no _ (hD _ (by simpa using e)) hl
end
section
variable {P : Program} {l : List Oper} {Q : Exit → Act → World → Prop} {fuel : Nat} {listed : Array Bool} {a : Act} {w : World} {R1 R2 S : World → World → Prop} {D : List Nat}
theorem anyU_val (hp : Pre R1) (i : Nat) (B : List Nat) {oi : Oper} (hi : nthOp l i = some oi) (hiD : D.contains i = false) (hsub : D.all (fun d => B.contains d) = true) (hbl : blocks .any l.toArray B i = true) (hun : B.all (fun d => !(listed.getD d true)) = true)
  (hs : Region.noSelect l.toArray = true) (hf : Region.free .any l.toArray listed i = true) (hr : (Region.ready .any l.toArray listed).contains i = true)
  (hQ : ∀ v c a w, Q (.panic c) (a.put oi.dst v) w → Q (.panic c) a w) (hg : Region.wanted oi (yielded l.toArray a.tmps) = true)
  (h : ∃ v, (∀ w', R1 w w' → (execOp a.eval oi).run P w' = .ok (.value v) w') ∧ wpAnyU P .any l.toArray Q R1 R2 D fuel (listed.setIfInBounds i true) (a.put oi.dst v) w) : wpAnyU P .any l.toArray Q R1 R2 D (fuel + 1) listed a w := by
 obtain ⟨v, h1, h2⟩ := h
 have hi' : l.toArray[i]? = some oi := by rw [← hi, nthOp_eq]; simp
 have hunp : ∀ d ∈ B, listed.getD d true = false := fun d hd => by
  have := List.all_eq_true.1 hun d hd
  simpa using this
 refine wpAnyU_first (S := R1) hp.1 hp.2 hi' (fun w => Rj_out hiD (hp.1 w)) (Region.noSelect_spec hs) (hQ v) (fun listed => ∀ d ∈ B, listed.getD d true = false) ?_ fuel listed a w hunp (Region.free_spec hi' hf) (by simpa using hr) ⟨hg, h1⟩ h2
 intro listed' hinv hiu j hj hji
 have hjB := blocks_spec hbl hiu hinv hj
 have hjD : j ∉ D := fun hd => hjB (by simpa using List.all_eq_true.1 hsub j hd)
 have hjc : D.contains j = false := by cases hc : D.contains j with | false => rfl | true => exact absurd (by simpa using hc) hjD
 refine ⟨fun w w' hR => by unfold Rj at hR; rw [if_neg (by rw [hjc]; simp)] at hR; exact hR, fun d hd => ?_⟩
 by_cases hdj : j = d
 ·subst hdj; exact absurd hd hjB
 ·rw [getD_set_ne true hdj]; exact hinv d hd
theorem anyU_pure (h1r : ∀ w, R1 w w) (h2r : ∀ w, R2 w w) (i : Nat) {oi : Oper} (hi : nthOp l i = some oi)
  (hs : Region.noSelect l.toArray = true) (hf : Region.free .any l.toArray listed i = true) (hr : (Region.ready .any l.toArray listed).contains i = true)
  (hQ : ∀ v c a w, Q (.panic c) (a.put oi.dst v) w → Q (.panic c) a w) (hg : Region.wanted oi (yielded l.toArray a.tmps) = true)
  (h : ∃ v, (∀ w', (execOp a.eval oi).run P w' = .ok (.value v) w') ∧ wpAnyU P .any l.toArray Q R1 R2 D fuel (listed.setIfInBounds i true) (a.put oi.dst v) w) : wpAnyU P .any l.toArray Q R1 R2 D (fuel + 1) listed a w := by
 obtain ⟨v, h1, h2⟩ := h
 have hi' : l.toArray[i]? = some oi := by rw [← hi, nthOp_eq]; simp
 exact wpAnyU_first (S := fun _ _ => True) (fun _ => trivial) (fun _ _ _ _ _ => trivial) hi' (fun w => by unfold Rj; split; (· exact h2r w); (· exact h1r w)) (Region.noSelect_spec hs) (hQ v) (fun _ => True) (fun _ _ _ _ _ _ => ⟨fun _ _ _ => trivial, trivial⟩) fuel listed a w trivial (Region.free_spec hi' hf) (by simpa using hr) ⟨hg, fun w' _ => h1 w'⟩ h2
theorem anyU_begin {id : Nat} (n : Nat) (hn : l.length = n) (hm : P.follows .mixedOrders = true)
  (h : wpAnyU P .any l.toArray Q R1 R2 D n (Array.replicate n false) a w.drew) : (Code.region id l.toArray true).wp P Q a w := by
 subst hn
 refine wp_region_any hm (wpAny_of_U (R1 := R1) (R2 := R2) (D := D) _ _ _ _ ?_)
 simpa using h
theorem anyU_done (hr : Region.ready .any l.toArray listed = []) (h : Q .normal a w) : wpAnyU P .any l.toArray Q R1 R2 D fuel listed a w := by
 cases fuel with
 | zero => exact ⟨hr, h⟩
 | succ n => exact ⟨fun _ => h, by rw [hr]; simp⟩
theorem anyU_one (i : Nat) {oi : Oper} (hi : nthOp l i = some oi) (hr : Region.ready .any l.toArray listed = [i]) (hg : Region.wanted oi (yielded l.toArray a.tmps) = true)
  (h1 : oi.wp P a w (fun a' w'' => Rj R1 R2 D i w w'' ∧ wpAnyU P .any l.toArray Q R1 R2 D fuel (listed.setIfInBounds i true) a' w'') Q) :
  wpAnyU P .any l.toArray Q R1 R2 D (fuel + 1) listed a w := by
 have hi' : l.toArray[i]? = some oi := by rw [← hi, nthOp_eq]; simp
 refine ⟨fun h0 => (by rw [hr] at h0; cases h0), fun k hk => ?_⟩
 rw [hr] at hk
 unfold wpOp
 obtain rfl : k = i := by simpa using hk
 rw [hi']; simp only [hg, if_true]; exact .inl h1
end
def calmQ (Q : Act → World → Prop) : Exit → Act → World → Prop := fun e a w => e = .normal ∧ Q a w
variable {P : Program} {R : World → World → Prop} {w : World} {a : Act} {ops : List Oper}
theorem anyU_two {R1 R2 : World → World → Prop} {D : List Nat} {fuel : Nat} {listed : Array Bool} {Q : Exit → Act → World → Prop} (i j : Nat) {oi oj : Oper} (hi : nthOp ops i = some oi) (hj : nthOp ops j = some oj) (hr : Region.ready .any ops.toArray listed = [i, j]) (gi : Region.wanted oi (yielded ops.toArray a.tmps) = true) (gj : Region.wanted oj (yielded ops.toArray a.tmps) = true)
  (h1 : oi.wp P a w (fun a' w'' => Rj R1 R2 D i w w'' ∧ wpAnyU P .any ops.toArray Q R1 R2 D fuel (listed.setIfInBounds i true) a' w'') Q)
  (h2 : oj.wp P a w (fun a' w'' => Rj R1 R2 D j w w'' ∧ wpAnyU P .any ops.toArray Q R1 R2 D fuel (listed.setIfInBounds j true) a' w'') Q) :
  wpAnyU P .any ops.toArray Q R1 R2 D (fuel + 1) listed a w := by
 have hi' : ops.toArray[i]? = some oi := by rw [← hi, nthOp_eq]; simp
 have hj' : ops.toArray[j]? = some oj := by rw [← hj, nthOp_eq]; simp
 refine ⟨fun h0 => (by rw [hr] at h0; cases h0), fun k hk => ?_⟩
 rw [hr] at hk
 unfold wpOp
 rcases List.mem_cons.1 hk with rfl | hk
 ·rw [hi']; simp only [gi, if_true]; exact .inl h1
 ·obtain rfl : k = j := by simpa using hk
  rw [hj']; simp only [gj, if_true]; exact .inl h2
end Go.Proofs.YtofknbfbmaefoaaGreatDoor
namespace Go.Proofs.YtofknbfbmaefoaaGreatDoor
open Go.RowKit Go.Shelf
set_option maxRecDepth 100000
set_option linter.unusedVariables false
set_option linter.unusedSimpArgs false
theorem wp_calmG {P : Program} {c : Code} {Q : Exit → Act → World → Prop} {a : Act} {w : World} (h : c.wp P (calmQ (Q .normal)) a w) : c.wp P Q a w := wp_mono h (fun e a w h => by obtain ⟨rfl, h⟩ := h; exact h)
def PkI (W : World) (sd : Value) (zd : List Int) (src dst : Int) : Prop := Mt.By zd ∧ Rd W.heap.size W sd zd ∧ zd.length ≤ 70000 ∧ (0 ≤ src ∧ src ≤ 4294967295) ∧ (0 ≤ dst ∧ dst ≤ 4294967295)
theorem PkI.later {A B : World} {sd : Value} {zd : List Int} {src dst : Int} (h : PkI A sd zd src dst) (l : Later A B) : PkI B sd zd src dst := ⟨h.1, h.2.1.later l, h.2.2⟩
theorem wat4D {zs : List Int} (hB : Mt.By zs) (k : Nat) : 0 ≤ wat4 zs k ∧ wat4 zs k ≤ 4294967295 := by
 have b1 := wat_bd hB k
 have b2 := wat_bd hB (k + 2)
 unfold wat4
 omega
theorem giveExpected_none (p : Value) (a : Option Addr) (cap : Nat) (w : World) : Calls Tryz.prog 35 #[p, .slice a 0 cap] w fun e w' => e = .returned (.tuple #[]) ∧ w' = w := by
 go_enter Tryz.func35, Tryz.ntmps35
 go_upto_region 1 with fail
 go_loopw [8] (fun iv wr => iv = .int .i64 0 ∧ wr = w) (fun _ _ => 0)
 case atStart => exact ⟨rfl, rfl⟩
 case round =>
  obtain ⟨rfl, hw⟩ := hrel
  go_wp2_with fail
  go_end0
  exact ⟨rfl, rfl⟩
theorem ownG_but {W W' : World} {base : Nat} {e t : TypeId} {size : Nat} {v : Value} {n : Nat} {xs : List Value} (h : W.ownsRow base e size v n xs) {g : Nat} (hb : But (fun b => b = g) W W') {cur : Array Value} {f : Nat × Nat} (hg : W.heap[g]? = some (.cells cur t f)) (hne : e ≠ t) : W'.ownsRow base e size v n xs := by
 obtain ⟨h1, h2 | ⟨b, cap, cur', e', hb', hh, r⟩⟩ := h
 ·exact ⟨h1, .inl h2⟩
 ·refine ⟨h1, .inr ⟨b, cap, cur', e', hb', (hb.block b (bl9 hh) (fun eq => ?_)).trans hh, r⟩⟩
  have eq' : b = g := eq
  rw [eq', hg] at hh
  cases hh
  exact hne rfl
theorem TB.butG {base bt : Nat} {W W' : World} {lim cnt trn : Int} {ls : Nat → List Rw} (h : TB base W bt lim cnt trn ls) {g : Nat} (hb : But (fun b => b = g) W W') {t : TypeId} {cur : Array Value} {f : Nat × Nat} (hg : W.heap[g]? = some (.cells cur t f)) (h1 : t ≠ 142) (h2 : 177 ≠ t) : TB base W' bt lim cnt trn ls := by
 obtain ⟨vs, q1, q2, q3, q4, q5⟩ := h
 refine ⟨vs, q1, q2, (hb.block bt (bl9 q3) (fun eq => ?_)).trans q3, fun i hi => ownG_but (q4 i hi) hb hg h2, q5⟩
 have eq' : bt = g := eq
 rw [eq', hg] at q3
 cases q3
 exact h1 rfl
theorem cellsG_but {W W' : World} {g b : Nat} {o : Obj} (hb : But (fun b => b = g) W W') (h : W.heap[b]? = some o) {cur : Array Value} {t : TypeId} {f : Nat × Nat} (hg : W.heap[g]? = some (.cells cur t f)) (hne : o ≠ .cells cur t f) : W'.heap[b]? = some o :=
 (hb.block b (bl9 h) (fun eq => by
  have eq' : b = g := eq
  rw [eq', hg] at h
  cases h
  exact hne rfl)).trans h
theorem GI.now {base g : Nat} {W : World} {s : Gs} (h : GI base W g s) (n : Int) : GI base (W.setCell ⟨g, 2, none⟩ (.int .i64 n)) g { s with now := n } := by
 have hb : But (fun b => b = g) W (W.setCell ⟨g, 2, none⟩ (.int .i64 n)) := (But.refl (fun b => b = g) _).setCell (show _ = _ from rfl) _
 have hc := h.gc
 have h2 := heap_set1 h.gc 2 (.int .i64 n)
 refine ⟨h.bs, h2, ⟨h.rl.1, cellsG_but hb h.rl.2.1 hc (by intro e; injection e with e1 e2 e3; exact absurd e2 (by decide)), ownG_but h.rl.2.2 hb hc (by decide)⟩, h.tb.butG hb hc (by decide) (by decide), ⟨h.bl.1, cellsG_but hb h.bl.2.1 hc (by intro e; injection e with e1 e2 e3; exact absurd e2 (by decide)), ownG_but h.bl.2.2 hb hc (by decide)⟩, cellsG_but hb h.fl hc (by intro e; cases e), cellsG_but hb h.pl hc (by intro e; cases e)⟩
theorem GI.book {base g : Nat} {W W' : World} {s : Gs} (h : GI base W g s) (hb : But (fun b => b = s.gb) W W') {v : Value} (hl : BL 144 base W' s.gb v []) : GI base W' g { s with ve := v } := by
 have hc := h.bl.2.1
 exact ⟨h.bs, cellsG_but hb h.gc hc (by intro e; injection e with e1 e2 e3; exact absurd e2 (by decide)), ⟨h.rl.1, cellsG_but hb h.rl.2.1 hc (by intro e; injection e with e1 e2 e3; exact absurd e2 (by decide)), ownG_but h.rl.2.2 hb hc (by decide)⟩, h.tb.butG hb hc (by decide) (by decide), hl, cellsG_but hb h.fl hc (by intro e; cases e), cellsG_but hb h.pl hc (by intro e; cases e)⟩
theorem allR_nil : allR (fun _ => []) = [] := by unfold allR; rw [List.flatMap_eq_nil_iff]; intro _ _; rfl
theorem due_none (base bt : Nat) (now : Int) (w : World) (hT : TB base w bt 128 0 0 (fun _ => [])) :
  Calls Tryz.prog 32 #[.pointer (some ⟨bt, 0, none⟩), .int .i64 now] w fun e w' => (∃ g, e = .returned (.slice (some ⟨g, 0, none⟩) 0 0)) ∧ Later w w' := by
 refine (due_any base bt 128 0 0 now (fun _ => []) [] w hT (by rw [allR_nil]; exact sorts_one [] (by simp)) (by rw [allR_nil]; simp)).mono ?_
 rintro e w' ⟨l, g, rfl, _, _⟩
 exact ⟨⟨g, rfl⟩, l⟩
def GsK (base : Nat) (lo hi : Int) (s : Gs) : Prop := s.lo = lo ∧ s.hi = hi ∧ (0 ≤ s.now ∧ s.now ≤ 549755813888) ∧ s.gf ≠ s.gp ∧ base ≤ s.gf ∧ base ≤ s.gp
def SmG (s s' : Gs) : Prop := s'.gb = s.gb ∧ ∀ b lo hi, GsK b lo hi s → GsK b lo hi s'
def TkG (base : Nat) (w w' : World) (g : Nat) (s : Gs) : Prop := But (fun b => b = g ∨ b = s.gb) w w' ∧ ∃ s', s'.ls = s.ls ∧ SmG s s' ∧ GI base w' g s'
theorem TkG.below {base g : Nat} {w w' : World} {s : Gs} (h : TkG base w w' g s) (hg : GI base w g s) (hbs : base ≤ w.heap.size) : Below base w w' := h.1.below hbs (fun k hk e => by
 have h1 := hg.bs
 have h2 := hg.bl.1
 rcases e with e | e <;> omega)
set_option maxRecDepth 100000 in
set_option maxHeartbeats 8000000 in
theorem tick_none (base g : Nat) (s : Gs) (nw : Int) (w : World) (h : GI base w g s) (hbs : base ≤ w.heap.size) :
  Calls Tryz.prog 14 #[.pointer (some ⟨g, 0, none⟩), .int .i64 nw] w fun e w' => e = .returned (.tuple #[]) ∧ TkG base w w' g s := by
 have HG := hide h
 have hbg := h.bs
 go_enter Tryz.func14, Tryz.ntmps14
 have k0 := block_cell h.gc
 have f0 := block_frozen h.gc
 unfold gtc at k0
 go_upto_region 1 with fail
 go_cut [18] (fun _ wx => ∃ nv : Int, (0 ≤ s.now → 0 ≤ nv ∧ nv ≤ 549755813888) ∧ wx = w.setCell ⟨g, 2, none⟩ (.int .i64 nv))
 case first =>
  go_wp2_with fail
  all_goals
   go_meet
   case rel => exact ⟨_, fun _ => by omega, rfl⟩
 case rest =>
 clear k0 f0
 obtain ⟨nv, hnr, hnv⟩ := hcut
 obtain ⟨w1, hw1⟩ : ∃ w1, w1 = wc := ⟨_, rfl⟩
 subst hw1
 have h1 : GI base w1 g { s with now := nv } := by rw [hnv]; exact h.now nv
 have M1 : But (fun b => b = g ∨ b = s.gb) w w1 := by
  rw [hnv]
  exact (But.refl (fun b => b = g ∨ b = s.gb) w).setCell (p := ⟨g, 2, none⟩) (show _ ∨ _ from .inl rfl) (.int .i64 nv)
 have hls : ({ s with now := nv } : Gs).ls = s.ls := rfl
 have hgb : ({ s with now := nv } : Gs).gb = s.gb := rfl
 have hgk : ∀ b lo hi, GsK b lo hi s → GsK b lo hi ({ s with now := nv } : Gs) := fun b lo hi h => ⟨h.1, h.2.1, hnr h.2.2.1.1, h.2.2.2⟩
 have HGK0 := hide hgk
 clear hnr hgk
 generalize ({ s with now := nv } : Gs) = s1 at *
 have HLS := hide hls
 have HGB := hide hgb
 have HGK : Hid (SmG s s1) := ⟨hgb, HGK0.out⟩
 clear HGK0
 clear hnv hls hgb HG h
 go_upto_region 2 with fail
 refine anyT_begin (R := Later) 11 rfl (by kernel_rfl) ?_
 have ld : Later w1 w1.drew := Later.drew w1
 generalize w1.drew = w2 at *
 have h2 := h1.later ld
 have M2 : But (fun b => b = g ∨ b = s.gb) w w2 := M1.trans (But.of ld)
 have q1 : ∀ v, Later w2 v → ∀ j, v.cell? ⟨g, j, none⟩ = (gtc s1).toArray[j]? := fun v hv => block_cell (later_keep hv h2.gc)
 unfold gtc at q1
 have H2 := hide h2
 clear h1 h2 ld M1
 refine tV Later.pre 0 rfl rfl ?_; apply Exists.intro; refine ⟨fun v1 hv1 => ?_, ?_⟩; (· (go_simp; rfl)); simp only [Act.put, sA, sB, sC]
 refine tV Later.pre 1 rfl rfl ?_; apply Exists.intro; refine ⟨fun v1 hv1 => ?_, ?_⟩; (· (go_simp; rfl)); simp only [Act.put, sA, sB, sC]
 refine tV Later.pre 2 rfl rfl ?_; apply Exists.intro; refine ⟨fun v1 hv1 => ?_, ?_⟩; (· (go_simp; rfl)); simp only [Act.put, sA, sB, sC]
 refine tV Later.pre 3 rfl rfl ?_; apply Exists.intro; refine ⟨fun v1 hv1 => ?_, ?_⟩; (· (go_simp; rfl)); simp only [Act.put, sA, sB, sC]
 refine tV Later.pre 4 rfl rfl ?_; apply Exists.intro; refine ⟨fun v1 hv1 => ?_, ?_⟩; (· (go_simp; rfl)); simp only [Act.put, sA, sB, sC]
 refine tV Later.pre 5 rfl rfl ?_; apply Exists.intro; refine ⟨fun v1 hv1 => ?_, ?_⟩; (· (go_simp; rfl)); simp only [Act.put, sA, sB, sC]
 refine tV Later.pre 6 rfl rfl ?_; apply Exists.intro; refine ⟨fun v1 hv1 => ?_, ?_⟩; (· (go_simp; rfl)); simp only [Act.put, sA, sB, sC]
 refine tV Later.pre 7 rfl rfl ?_; apply Exists.intro; refine ⟨fun v1 hv1 => ?_, ?_⟩; (· (go_simp; rfl)); simp only [Act.put, sA, sB, sC]
 refine tV Later.pre 10 rfl rfl ?_; apply Exists.intro; refine ⟨fun v1 hv1 => ?_, ?_⟩; (· (go_simp; rfl)); simp only [Act.put, sA, sB, sC]
 clear q1
 refine anyT_one 8 rfl (by kernel_rfl) rfl ?_
 refine wp_enter 32 #[.pointer (some ⟨s1.gt, 0, none⟩), .int .i64 s1.now] (by go_simp) ?_
 refine (due_none base s1.gt s1.now w2 H2.out.tb).mono ?_
 rintro e w3 ⟨⟨gd, rfl⟩, l3⟩
 refine ⟨l3, ?_⟩
 simp only [Act.put, sA, sB, sC]
 refine tV Later.pre 9 rfl rfl ?_; apply Exists.intro; refine ⟨fun v1 hv1 => ?_, ?_⟩; (· (go_simp; rfl)); simp only [Act.put, sA, sB, sC]
 refine anyT_done (by kernel_rfl) ?_
 have h3 := H2.out.later l3
 have M3 : But (fun b => b = g ∨ b = s.gb) w w3 := M2.trans (But.of l3)
 have H3 := hide h3
 clear H2 h3 M2 l3
 go_upto_region 3 with fail
 go_loopw [31] (fun iv wr => iv = .int .i64 0 ∧ wr = w3) (fun _ _ => 0)
 case atStart => exact ⟨rfl, rfl⟩
 case round =>
  obtain ⟨rfl, hw⟩ := hrel
  subst hw
  go_upto_region 9 with fail
  refine anyT_begin (R := But (fun b => b = s1.gb)) 11 rfl (by kernel_rfl) ?_
  have ld : Later wr wr.drew := Later.drew wr
  generalize wr.drew = w4 at *
  have h4 := H3.out.later ld
  have M4 : But (fun b => b = g ∨ b = s.gb) w w4 := M3.trans (But.of ld)
  have q1 : ∀ v, But (fun b => b = s1.gb) w4 v → ∀ j, v.cell? ⟨g, j, none⟩ = (gtc s1).toArray[j]? := fun v hv => block_cell (cellsG_but hv h4.gc h4.bl.2.1 (by intro e; injection e with e1 e2 e3; exact absurd e2 (by decide)))
  unfold gtc at q1
  have H4 := hide h4
  clear H3 h4 M3 ld
  refine tV (But.pre (fun b => b = s1.gb)) 0 rfl rfl ?_; apply Exists.intro; refine ⟨fun v1 hv1 => ?_, ?_⟩; (· (go_simp; rfl)); simp only [Act.put, sA, sB, sC]
  refine tV (But.pre (fun b => b = s1.gb)) 1 rfl rfl ?_; apply Exists.intro; refine ⟨fun v1 hv1 => ?_, ?_⟩; (· (go_simp; rfl)); simp only [Act.put, sA, sB, sC]
  refine tV (But.pre (fun b => b = s1.gb)) 2 rfl rfl ?_; apply Exists.intro; refine ⟨fun v1 hv1 => ?_, ?_⟩; (· (go_simp; rfl)); simp only [Act.put, sA, sB, sC]
  refine tV (But.pre (fun b => b = s1.gb)) 3 rfl rfl ?_; apply Exists.intro; refine ⟨fun v1 hv1 => ?_, ?_⟩; (· (go_simp; rfl)); simp only [Act.put, sA, sB, sC]
  refine tV (But.pre (fun b => b = s1.gb)) 4 rfl rfl ?_; apply Exists.intro; refine ⟨fun v1 hv1 => ?_, ?_⟩; (· (go_simp; rfl)); simp only [Act.put, sA, sB, sC]
  refine tV (But.pre (fun b => b = s1.gb)) 5 rfl rfl ?_; apply Exists.intro; refine ⟨fun v1 hv1 => ?_, ?_⟩; (· (go_simp; rfl)); simp only [Act.put, sA, sB, sC]
  refine tV (But.pre (fun b => b = s1.gb)) 6 rfl rfl ?_; apply Exists.intro; refine ⟨fun v1 hv1 => ?_, ?_⟩; (· (go_simp; rfl)); simp only [Act.put, sA, sB, sC]
  refine tV (But.pre (fun b => b = s1.gb)) 7 rfl rfl ?_; apply Exists.intro; refine ⟨fun v1 hv1 => ?_, ?_⟩; (· (go_simp; rfl)); simp only [Act.put, sA, sB, sC]
  refine tV (But.pre (fun b => b = s1.gb)) 8 rfl rfl ?_; apply Exists.intro; refine ⟨fun v1 hv1 => ?_, ?_⟩; (· (go_simp; rfl)); simp only [Act.put, sA, sB, sC]
  clear q1
  refine anyT_one 9 rfl (by kernel_rfl) rfl ?_
  refine wp_enter 36 #[.pointer (some ⟨s1.gb, 0, none⟩), .int .i64 s1.now] (by go_simp) ?_
  refine (due12_any base s1.gb s1.ve [] s1.now w4 H4.out.bl (Nat.le_trans hbs M4.size) (by simp)).mono ?_
  rintro e w5 ⟨u, rfl, v5, hbl, hrow, hbut, _⟩
  obtain ⟨ua, uc, rfl⟩ : ∃ a c, u = .slice a 0 c := by
   obtain ⟨_, ⟨rfl, _⟩ | ⟨b, cap, cur, rfl, _⟩⟩ := hrow
   ·exact ⟨_, _, rfl⟩
   ·exact ⟨_, _, rfl⟩
  have h5 := H4.out.book hbut hbl
  have M5 : But (fun b => b = g ∨ b = s.gb) w w5 := M4.trans ⟨hbut.os, hbut.tape, hbut.output, hbut.size, fun i hi he => hbut.block i hi (fun e => he (.inr (by have e' : i = s1.gb := e; rw [e', HGB.out])))⟩
  have HB := hide hbut
  clear hbut hrow hbl
  refine ⟨HB.out, ?_⟩
  simp only [Act.put, sA, sB, sC]
  refine anyT_one 10 rfl (by kernel_rfl) rfl ?_
  refine wp_enter 35 #[.pointer (some ⟨g, 0, none⟩), .slice ua 0 uc] (by go_simp) ?_
  refine (giveExpected_none _ ua uc w5).mono ?_
  rintro e w6 ⟨rfl, hw6⟩
  subst hw6
  refine ⟨But.refl _ _, ?_⟩
  simp only [Act.put, sA, sB, sC]
  refine anyT_done (by kernel_rfl) ?_
  go_wp2_with fail
  go_end0
  exact ⟨rfl, M5, { s1 with ve := v5 }, HLS.out, HGK.out, h5⟩
theorem ownG_mono {W : World} {base base' : Nat} {e : TypeId} {size : Nat} {v : Value} {n : Nat} {xs : List Value} (h : W.ownsRow base e size v n xs) (hb : base' ≤ base) : W.ownsRow base' e size v n xs := by
 obtain ⟨h1, h2 | ⟨b, cap, cur, e', hb', r⟩⟩ := h
 ·exact ⟨h1, .inl h2⟩
 ·exact ⟨h1, .inr ⟨b, cap, cur, e', Nat.le_trans hb hb', r⟩⟩
theorem RL.monoG {t : TypeId} {base base' : Nat} {W : World} {b : Nat} {v : Value} {l : List Ru} (h : RL t base W b v l) (hb : base' ≤ base) : RL t base' W b v l := ⟨Nat.le_trans hb h.1, h.2.1, ownG_mono h.2.2 hb⟩
theorem BL.monoG {t : TypeId} {base base' : Nat} {W : World} {b : Nat} {v : Value} {l : List Ex} (h : BL t base W b v l) (hb : base' ≤ base) : BL t base' W b v l := ⟨Nat.le_trans hb h.1, h.2.1, ownG_mono h.2.2 hb⟩
theorem TB.monoG {base base' : Nat} {W : World} {b : Nat} {lim cnt trn : Int} {ls : Nat → List Rw} (h : TB base W b lim cnt trn ls) (hb : base' ≤ base) : TB base' W b lim cnt trn ls := by
 obtain ⟨vs, q1, q2, q3, q4, q5⟩ := h
 exact ⟨vs, q1, Nat.le_trans hb q2, q3, fun i hi => ownG_mono (q4 i hi) hb, q5⟩
end Go.Proofs.YtofknbfbmaefoaaGreatDoor
